"""Random texts, some of them broken, in the languages of several tests."""

from tests.derivations import Deriver

NAMING = {"word": "mnopx", "number": "12", "quote": ("'m'", "'n'", "'o'", "'x'")}
NAMING_MORE = ("box m { var x; let o = n; }", "show . x of in m;", "fun n { fun o { var p; } }",
               "show . p of [. o of n];", "take o: box m, n;", "hand m: n, box m;")
VALUES = {"word": "abcde", "number": ("0", "1", "7", "12"), "quote": ("'m'", "'n'", "'o'", "'x'")}


def random_words(rng, deriver, samples, depth, most):
    """The words of a random item, now and then without one of them."""
    deriver.events = []
    deriver.rule("item", depth)
    kinds = deriver.kinds()
    if rng.random() < 0.2:
        del kinds[rng.randrange(len(kinds))]
    return [kind[1] if kind[0] == "word" else rng.choice(samples[kind[1]]) for kind in kinds[:most]]


def naming_text(rng, language, size):
    """A text in the language with every sort of fact about names."""
    text, deriver = "", Deriver(language, rng)
    while len(text) < size:
        words = random_words(rng, deriver, NAMING, 3, 40)
        if rng.random() < 0.2:
            words = rng.choice(NAMING_MORE).split()
        if len(text) + len(" ".join(words)) > 500:
            break
        text += " ".join(words) + rng.choice((" ", "\n"))
    return text


def evaluating_text(rng, language, size):
    """A text in the language whose attributes read in every way."""
    deriver = Deriver(language, rng)
    text = f"use '{rng.choice('mnox')}'; " if rng.random() < 0.5 else ""
    while len(text) < size:
        words = random_words(rng, deriver, VALUES, rng.choice((2, 3, 4)), 30)
        if rng.random() < 0.4:
            words = f"let {rng.choice('abcde')} = {rng.choice('abcde')} + {rng.choice('abc1')};".split()
        if len(text) + len(" ".join(words)) > 300:
            break
        text += " ".join(words) + rng.choice((" ", "\n"))
    return text


MODULES = {"word": "abcmn", "number": "12", "quote": ("'m'", "\"n\"", "'o'", "'x'", "`m`")}
MODULES_MORE = ("def a = 1 + 2 ;", "def b = a * 3 ;", "def c = ( 1 + a ) ;", "var b = 2 ;", "show a + b ;", "show c * c ;",
                "measure a ;", "show in a ;", "show 1 + 2 ;", "show call a [ 1 + 2 , b ] ;", "late b = 1 + 2 ;")
MODULES_AHEAD = ("use 'm' ;", "use \"n\" ;", "from m take a ;", "from n take a , b ;", "from m take ren a as c , b ;",
                 "hand 'm' take unit a , a ;", "hand \"o\" take b ;", "from o take c , a ;", "from m take unit a ;")


def modules_text(rng, language, size):
    """A text in the language with imports and definitions."""
    text, deriver = "", Deriver(language, rng)
    while rng.random() < 0.5:
        text += rng.choice(MODULES_AHEAD) + rng.choice((" ", "\n"))
    while len(text) < size:
        words = random_words(rng, deriver, MODULES, 3, 30)
        if rng.random() < 0.7:
            words = rng.choice(MODULES_MORE).split()
        if len(text) + len(" ".join(words)) > 300:
            break
        text += rng.choice((" ", " ", "")).join(words) if rng.random() < 0.1 else " ".join(words)
        text += rng.choice((" ", "\n"))
    return text


def modules_files(rng):
    """The texts of files with names of their own, which import from one another what they use, mostly."""
    own = {"m": "abc", "n": "def", "o": "ghi"}
    files = {file: "" for file in "mno"[:rng.randint(2, 3)]}
    for file in files:
        known = own[file]
        for other in files:
            names = rng.sample(own[other], rng.randint(1, 2)) if rng.random() < 0.7 else []
            if other != file and names:
                ways = (f"use '{other}' ;", f"from {other} take {' , '.join(names)} ;", f"hand '{other}' take {' , '.join(names)} ;",
                        f"from {other} take ren {names[0]} as x , {names[-1]} ;", f"hand \"{other}\" take unit {names[0]} ;")
                files[file] += rng.choice(ways[:3] + ways) + rng.choice((" ", "\n"))
                known += "".join(names) + "x" * (rng.random() < 0.2)
        for _ in range(rng.randint(1, 5)):
            one, two, name = rng.choice(known), rng.choice(known), rng.choice(own[file])
            items = (f"def {name} = {one} + 1 ;", f"def {name} = 1 + 2 ;", f"def {name} = ( 2 * {one} ) ;", f"show {one} + {two} ;",
                     f"show {one} * 2 ;", f"late {name} = 1 ;", f"show 1 + 2 ;", f"measure {name} ;", f"show in {one} ;",
                     f"{{ def {name} = 2 ; show {name} + {one} ; }}", f"show call {one} [ 1 + 2 , ~ {two} ] ;", f"var {name} = {one} ;",
                     f"show . {one} of {two} ;", f"def {name} = {two} note {one} ;")
            files[file] += rng.choice(items[:6] + items) + rng.choice((" ", "\n"))
    return files
