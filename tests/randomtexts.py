"""Random texts, some of them broken, in the languages of several tests."""

from tests.derivations import Deriver

NAMING = {"word": "mnopx", "number": "12", "quote": ("'m'", "'n'", "'o'", "'x'")}
NAMING_MORE = ("box m { var x; let o = n; }", "show . x of in m;", "fun n { fun o { var p; } }",
               "show . p of [. o of n];", "take o: box m, n;", "hand m: n, box m;")
VALUES = {"word": "abcde", "number": ("0", "1", "7", "12"), "quote": ("'m'", "'n'", "'o'", "'x'")}


def random_words(rng, deriver, samples, depth, most):
    """The words of a random item, now and then without one of them."""
    deriver.events = []
    deriver.rule("item", depth)
    kinds = deriver.kinds()
    if rng.random() < 0.2:
        del kinds[rng.randrange(len(kinds))]
    return [kind[1] if kind[0] == "word" else rng.choice(samples[kind[1]]) for kind in kinds[:most]]


def naming_text(rng, language, size):
    """A text in the language with every sort of fact about names."""
    text, deriver = "", Deriver(language, rng)
    while len(text) < size:
        words = random_words(rng, deriver, NAMING, 3, 40)
        if rng.random() < 0.2:
            words = rng.choice(NAMING_MORE).split()
        if len(text) + len(" ".join(words)) > 500:
            break
        text += " ".join(words) + rng.choice((" ", "\n"))
    return text


def evaluating_text(rng, language, size):
    """A text in the language whose attributes read in every way."""
    deriver = Deriver(language, rng)
    text = f"use '{rng.choice('mnox')}'; " if rng.random() < 0.5 else ""
    while len(text) < size:
        words = random_words(rng, deriver, VALUES, rng.choice((2, 3, 4)), 30)
        if rng.random() < 0.4:
            words = f"let {rng.choice('abcde')} = {rng.choice('abcde')} + {rng.choice('abc1')};".split()
        if len(text) + len(" ".join(words)) > 300:
            break
        text += " ".join(words) + rng.choice((" ", "\n"))
    return text
