"""Lexers and tokens ([B7] to [B12])."""

import random
import unittest

from tongues.automata import matches
from tongues.errors import BadLexer
from tongues.patterns import read_pattern
from tongues.texts import apply_change, carry_place
from tongues.tokens import Lexer, is_name, relex, tokens
from tests.test_texts import random_change


def rule(name, pattern, mode=None, following=None, is_skipped=False):
    return (name, pattern, mode, following, is_skipped)


LET = Lexer((), ("let", "="), [rule("word", "[a-z]+"), rule("number", "[0-9]+"),
                               rule("blank", "[ \n]+", is_skipped=True)])
# A text in quotation marks has a mode of its own; a comment is begun and never ended.
QUOTED = Lexer(("main", "inner"), ('"', "("),
               [rule("name", "[a-z]+"), rule("opening", "'", None, "inner"), rule("part", "[^'$]+", "inner"),
                rule("closing", "'", "inner", "main"), rule("comment", "#.*!")])


def tokens_by_definition(lexer, text):
    """The tokens with the longest matches, found by trying each end."""
    found, at, mode = [], 0, lexer.modes[0]
    while at < len(text):
        kinds = lexer.kinds(mode)
        trees = {name: read_pattern(pattern) for name, pattern, _, _, _ in lexer.rules}
        best = (1, ("stray",))
        for stop in range(at + 1, len(text) + 1):
            for kind in kinds:
                part = text[at:stop]
                if part == kind[1] if kind[0] == "word" else matches(trees[kind[1]], part):
                    best = (stop - at, kind)
                    break
        size, kind = best
        found.append((kind, at, at + size, mode))
        if kind[0] == "word":
            mode = lexer.modes[0]
        elif kind[0] == "rule":
            mode = [follow for name, _, _, follow, _ in lexer.rules if name == kind[1]][0]
        at += size
    return found


class NamesTest(unittest.TestCase):
    def test_is_name(self):
        for text in ("a", "z", "abcdefghijkl"):
            self.assertIs(is_name(text), True)
        for text in ("", "abcdefghijklm", "A", "a1", "a b", " ", "a\n", "a_b", "-"):
            self.assertIs(is_name(text), False)


class LexerErrorsTest(unittest.TestCase):
    def wrong(self, modes, words, rules):
        told = []
        for kind in (tuple, list):
            with self.assertRaises(BadLexer) as caught:
                Lexer(kind(modes), kind(words), kind(rules))
            told.append((caught.exception.number, caught.exception.reason))
        self.assertEqual(told[0], told[1])
        return told[0]

    def test_modes(self):
        rules = [rule("a", "a")]
        self.assertEqual(Lexer(("a", "b", "c", "d"), (), rules).modes, ("a", "b", "c", "d"))
        self.assertEqual(Lexer(["abcdefghijkl"], (), rules).modes, ("abcdefghijkl",))
        self.assertEqual(Lexer([], (), rules).modes, ("main",))
        for modes in (("a", "b", "c", "d", "e"), ("a", "a"), ("a", "b", "a"), ("A",), ("",), ("a", "b1"),
                      ("abcdefghijklm",)):
            self.assertEqual(self.wrong(modes, (), rules), (None, "modes"), modes)

    def test_number_of_words(self):
        words = ["w" + str(number) for number in range(61)]
        self.assertEqual(Lexer((), words[:60], [rule("a", "a")]).words, tuple(words[:60]))
        self.assertEqual(self.wrong((), words, [rule("a", "a")]), (None, "words"))
        self.assertEqual(self.wrong((), words + [""], [rule("a", "a")]), (None, "words"))

    def test_words(self):
        rules = [rule("a", "a")]
        self.assertEqual(Lexer((), ["+", "x" * 12, "\n", " "], rules).words, ("+", "x" * 12, "\n", " "))
        self.assertEqual(self.wrong((), ["a", ""], rules), (1, "word"))
        self.assertEqual(self.wrong((), ["a", "x" * 13], rules), (1, "word"))
        self.assertEqual(self.wrong((), ["a", "b", "a", ""], rules), (2, "word"))
        self.assertEqual(self.wrong((), ["", ""], rules), (0, "word"))

    def test_number_of_rules(self):
        rules = [rule("r" + "abcdefghijklmnopqrstuvwxyz"[number], "a") for number in range(21)]
        self.assertEqual(len(Lexer((), (), rules[:20]).rules), 20)
        self.assertEqual(self.wrong((), (), rules), (None, "rules"))
        self.assertEqual(self.wrong((), (), []), (None, "rules"))
        self.assertEqual(self.wrong((), (), [rule("", "")] * 21), (None, "rules"))

    def test_rules(self):
        modes = ("main", "other")
        for bad, reason in (
                (rule("", "a"), "name"), (rule("abcdefghijklm", "a"), "name"), (rule("A", "a"), "name"),
                (rule("b", ""), "pattern"), (rule("b", "a("), "pattern"), (rule("b", "a" * 61), "pattern"),
                (rule("b", "a*"), "empty"), (rule("b", "a|b?"), "empty"), (rule("b", "a", "none"), "mode"),
                (rule("b", "a", None, "none"), "mode"), (rule("b", "a", "other", ""), "mode"),
                # the first of several reasons
                (rule("B", "a(", "none"), "name"), (rule("b", "a(", "none"), "pattern"),
                (rule("b", "a*" * 31, "none"), "pattern"), (rule("b", "a*", "none"), "empty"),
                (rule("a", "b", "none"), "mode")):
            self.assertEqual(self.wrong(modes, (), [rule("a", "a"), bad, rule("", "")]), (1, reason), bad)
        self.assertEqual(Lexer((), (), [rule("abcdefghijkl", "a" * 60)]).rules[0][1], "a" * 60)

    def test_doubled_names(self):
        self.assertEqual(self.wrong((), (), [rule("a", "a"), rule("b", "a"), rule("a", "b"), rule("b", "b")]),
                         (2, "double"))
        self.assertEqual(self.wrong((), (), [rule("a", "a"), rule("a", "a"), rule("c", "")]), (2, "pattern"))

    def test_the_order_of_faults(self):
        many = ["w" + str(number) for number in range(61)]
        self.assertEqual(self.wrong(("A",), many, []), (None, "modes"))
        self.assertEqual(self.wrong(("a",), many, []), (None, "words"))
        self.assertEqual(self.wrong(("a",), [""], []), (0, "word"))
        self.assertEqual(self.wrong(("a",), ["x"], []), (None, "rules"))


class LexerTest(unittest.TestCase):
    def test_attributes(self):
        for kind in (tuple, list):
            modes, words = kind(("one", "two")), kind(("x", "y"))
            rules = kind((rule("a", "a"), rule("b", "b", "two"), rule("c", "c", None, "two", True),
                          rule("d", "d", "two", "one"), rule("e", "[e]", "two", "two")))
            lexer = Lexer(modes, words, rules)
            self.assertEqual(lexer.modes, ("one", "two"))
            self.assertEqual(lexer.words, ("x", "y"))
            self.assertEqual(lexer.rules, (
                ("a", "a", "one", "one", False), ("b", "b", "two", "two", False), ("c", "c", "one", "two", True),
                ("d", "d", "two", "one", False), ("e", "[e]", "two", "two", False)))
            self.assertEqual(lexer.kinds("one"), [("word", "x"), ("word", "y"), ("rule", "a"), ("rule", "c")])
            self.assertEqual(lexer.kinds("two"), [("rule", "b"), ("rule", "d"), ("rule", "e")])
            lexer.kinds("two").clear()
            self.assertEqual(len(lexer.kinds("two")), 3)
            self.assertEqual((len(modes), len(words), len(rules)), (2, 2, 5))

    def test_automaton(self):
        machine = LET.automaton("main")
        state = None
        for character in "let":
            state = machine.after(state, character)
        self.assertEqual(machine.matching(state), [0, 2])
        self.assertEqual(machine.matching(machine.after(None, "=")), [1])
        self.assertEqual(QUOTED.automaton("inner").after(None, "$"), ())

    def test_is_skipped(self):
        self.assertIs(LET.is_skipped(("rule", "blank")), True)
        for kind in (("rule", "word"), ("word", "let"), ("stray",), ("rule", "other"), ("word", "blank"), ("end",)):
            self.assertIs(LET.is_skipped(kind), False)

    def test_later_changes_of_the_arguments(self):
        modes, words, rules = ["main"], ["x"], [rule("a", "a")]
        lexer = Lexer(modes, words, rules)
        modes.append("b")
        words.append("y")
        rules.append(rule("b", "b"))
        self.assertEqual((lexer.modes, lexer.words, len(lexer.rules)), (("main",), ("x",), 1))


class TokensTest(unittest.TestCase):
    def test_example(self):
        self.assertEqual(tokens(LET, "let x=12"), (
            (("word", "let"), 0, 3, "main", 4), (("rule", "blank"), 3, 4, "main", 5), (("rule", "word"), 4, 5, "main", 6),
            (("word", "="), 5, 6, "main", 7), (("rule", "number"), 6, 8, "main", 9)))

    def kinds(self, lexer, text):
        return [(kind[-1], text[start:stop]) for kind, start, stop, _, _ in tokens(lexer, text)]

    def test_longest_match(self):
        self.assertEqual(self.kinds(LET, "lets"), [("word", "lets")])
        lexer = Lexer((), ("<", "<=", "<=>"), [rule("a", "a")])
        self.assertEqual(self.kinds(lexer, "<=<<=>"), [("<=", "<="), ("<", "<"), ("<=>", "<=>")])

    def test_a_match_with_a_shorter_one_behind_a_gap(self):
        lexer = Lexer((), (), [rule("number", "[0-9]+(\\.[0-9]+)?"), rule("dot", "\\.")])
        self.assertEqual(tokens(lexer, "1.x"), (
            (("rule", "number"), 0, 1, "main", 3), (("rule", "dot"), 1, 2, "main", 3), (("stray",), 2, 3, "main", 3)))

    def test_words_are_ahead_of_rules_and_earlier_rules_of_later_ones(self):
        lexer = Lexer((), ("aa",), [rule("one", "[ab]+"), rule("two", "[abc]+"), rule("three", "b+")])
        self.assertEqual(self.kinds(lexer, "aa"), [("aa", "aa")])
        self.assertEqual(self.kinds(lexer, "bb"), [("one", "bb")])
        self.assertEqual(self.kinds(lexer, "bc"), [("two", "bc")])

    def test_stray_characters(self):
        self.assertEqual(tokens(LET, "!!a"), ((("stray",), 0, 1, "main", 1), (("stray",), 1, 2, "main", 2),
                                              (("rule", "word"), 2, 3, "main", 4)))
        self.assertEqual(tokens(QUOTED, "'$'"), (
            (("rule", "opening"), 0, 1, "main", 2), (("stray",), 1, 2, "inner", 2),
            (("rule", "closing"), 2, 3, "inner", 4)))

    def test_a_stray_token_that_looks_on(self):
        self.assertEqual(tokens(QUOTED, "#a"), ((("stray",), 0, 1, "main", 3), (("rule", "name"), 1, 2, "main", 3)))
        lexer = Lexer((), ("abc",), [rule("b", "b")])
        self.assertEqual(tokens(lexer, "abx"), ((("stray",), 0, 1, "main", 3), (("rule", "b"), 1, 2, "main", 3),
                                                (("stray",), 2, 3, "main", 3)))

    def test_changes_of_modes(self):
        self.assertEqual(tokens(QUOTED, "a'b a'a"), (
            (("rule", "name"), 0, 1, "main", 2), (("rule", "opening"), 1, 2, "main", 3),
            (("rule", "part"), 2, 5, "inner", 6), (("rule", "closing"), 5, 6, "inner", 7),
            (("rule", "name"), 6, 7, "main", 8)))

    def test_the_first_mode_follows_a_word(self):
        lexer = Lexer(("one", "two"), ("x",), [rule("a", "a", "one", "two"), rule("b", "b", "two", "two")])
        self.assertEqual([token[3] for token in tokens(lexer, "xxab?bx")],
                         ["one", "one", "one", "two", "two", "two", "two"])
        self.assertEqual(tokens(lexer, "ax")[1], (("stray",), 1, 2, "two", 2))

    def test_a_mode_without_items(self):
        lexer = Lexer(("one", "two"), (), [rule("a", "a", "one", "two")])
        self.assertEqual(tokens(lexer, "aa\n"), ((("rule", "a"), 0, 1, "one", 2), (("stray",), 1, 2, "two", 2),
                                                 (("stray",), 2, 3, "two", 3)))
        self.assertEqual(tokens(Lexer(("one", "two"), (), [rule("a", "a", "two")]), "a"),
                         ((("stray",), 0, 1, "one", 1),))

    def test_skipped_tokens_are_among_them(self):
        self.assertEqual(self.kinds(LET, " a\n"), [("blank", " "), ("word", "a"), ("blank", "\n")])

    def test_the_empty_text(self):
        self.assertEqual(tokens(LET, ""), ())

    def test_looked_at_the_end(self):
        self.assertEqual([token[4] for token in tokens(LET, "=")], [2])
        self.assertEqual([token[4] for token in tokens(LET, "le")], [3])
        self.assertEqual([token[4] for token in tokens(LET, "!")], [1])

    def test_token_at_a_position(self):
        self.assertEqual(LET.token("let x", 1, "main"), ((("rule", "word"), 1, 3, "main", 4), "main"))
        self.assertEqual(LET.token("let x", 0, "main"), ((("word", "let"), 0, 3, "main", 4), "main"))
        self.assertEqual(QUOTED.token("a'b", 1, "main"), ((("rule", "opening"), 1, 2, "main", 3), "inner"))
        self.assertEqual(QUOTED.token("a'b", 1, "inner"), ((("rule", "closing"), 1, 2, "inner", 3), "main"))
        self.assertEqual(QUOTED.token("a'b", 0, "inner"), ((("rule", "part"), 0, 1, "inner", 2), "inner"))
        self.assertEqual(QUOTED.token("a$(", 1, "inner"), ((("stray",), 1, 2, "inner", 2), "inner"))
        self.assertEqual(QUOTED.token("a$(", 2, "main"), ((("word", "("), 2, 3, "main", 4), "main"))

    def test_by_their_definition(self):
        rng = random.Random(6)
        for lexer in (LET, QUOTED):
            for _ in range(150):
                text = "".join(rng.choice("let='a!#$\n(\"1") for _ in range(rng.randint(0, 10)))
                self.assertEqual([token[:4] for token in tokens(lexer, text)], tokens_by_definition(lexer, text))


class RelexTest(unittest.TestCase):
    def old_numbers(self, lexer, text, change):
        return [row[5] for row in relex(lexer, text, change)[0]]

    def test_example(self):
        rows, read = relex(LET, "let x=12", ((4, 5, "yy"),))
        self.assertEqual([row[5] for row in rows], [0, None, None, 3, 4])
        self.assertEqual(read, 5)
        self.assertEqual(rows[3], (("word", "="), 6, 7, "main", 8, 3))
        self.assertIsInstance(rows, tuple)

    def test_without_a_change(self):
        self.assertEqual(relex(LET, "let x=12", []), (tuple(token + (number,) for number, token
                                                            in enumerate(tokens(LET, "let x=12"))), 0))
        self.assertEqual(relex(LET, "", ()), ((), 0))

    def test_a_change_ahead_of_a_token(self):
        self.assertEqual(relex(LET, "a =", ((0, 1, "bcd"),)), (
            ((("rule", "word"), 0, 3, "main", 4, None), (("rule", "blank"), 3, 4, "main", 5, 1),
             (("word", "="), 4, 5, "main", 6, 2)), 4))

    def test_a_change_at_the_border(self):
        # a piece that ends at the beginning of the token, and one that begins where it has looked up to
        self.assertEqual(self.old_numbers(LET, "==a", ((0, 1, "1"),)), [None, 1, 2])
        self.assertEqual(self.old_numbers(LET, "==a", ((1, 1, "1"),)), [None, None, 1, 2])
        self.assertEqual(self.old_numbers(LET, "== a", ((2, 3, "b"),)), [0, None, None])
        self.assertEqual(self.old_numbers(LET, "=1=", ((1, 1, "="),)), [None, None, 1, 2])
        self.assertEqual(self.old_numbers(LET, "=1=", ((2, 2, "="),)), [0, None, None, 2])

    def test_a_change_within_and_behind(self):
        self.assertEqual(self.old_numbers(LET, "ab=1 ", ((1, 1, "c"),)), [None, 1, 2, 3])
        self.assertEqual(self.old_numbers(LET, "ab=1 =", ((4, 5, "\n"),)), [0, 1, None, None, 4])
        self.assertEqual(self.old_numbers(LET, "ab=1", ((2, 3, "c"),)), [None, 2])

    def test_a_token_that_looked_at_the_end(self):
        self.assertEqual(self.old_numbers(LET, "a=", ((2, 2, "1"),)), [0, None, None])
        self.assertEqual(self.old_numbers(LET, "a!", ((2, 2, "1"),)), [0, 1, None])
        self.assertEqual(self.old_numbers(LET, "1=", ((0, 0, "a"),)), [None, 0, 1])
        # the token "#" has looked up to the end, far behind its own stop
        self.assertEqual(self.old_numbers(QUOTED, "#ab(", ((4, 4, "!"),)), [None])
        self.assertEqual(self.old_numbers(QUOTED, "#ab(", ((4, 4, "a"),)), [None, 1, None, None])

    def test_a_token_that_looked_far(self):
        lexer = Lexer((), ("abcd", "a"), [rule("rest", "[b-z]")])
        self.assertEqual(self.old_numbers(lexer, "abcx", ((3, 4, "y"),)), [None, 1, None, None])
        self.assertEqual(self.old_numbers(lexer, "abxx", ((3, 4, "y"),)), [0, 1, None, None])

    def test_a_change_that_puts_what_stood_there(self):
        self.assertEqual(relex(LET, "a=1", ((0, 1, "a"),)), (tuple(
            token + (number,) for number, token in zip([None, 1, 2], tokens(LET, "a=1"))), 2))
        self.assertEqual(self.old_numbers(LET, "a=1", ((0, 3, "a=1"),)), [None, None, None])

    def test_a_mode_that_changes(self):
        self.assertEqual(self.old_numbers(QUOTED, "'a'a", ((0, 1, "("),)), [None, None, None, None])
        self.assertEqual(self.old_numbers(QUOTED, "'a'(", ((0, 0, "("),)), [None, 0, 1, 2, 3])
        self.assertEqual(self.old_numbers(QUOTED, "a a", ((0, 0, "'"),)), [None, None])

    def test_the_number_of_characters_that_are_read(self):
        self.assertEqual(relex(LET, "", ((0, 0, "a="),))[1], 3)
        self.assertEqual(relex(LET, "ab", ((2, 2, "c"),))[1], 3)
        self.assertEqual(relex(LET, "a=b", ((1, 2, ""),))[1], 2)
        self.assertEqual(relex(QUOTED, "#ab", ((1, 1, "c"),))[1], 7)
        self.assertEqual(relex(LET, "a", ((0, 1, ""),)), ((), 0))

    def test_by_its_definition(self):
        rng = random.Random(7)
        for lexer in (LET, QUOTED):
            for _ in range(400):
                text = "".join(rng.choice("lea='!#$ (1") for _ in range(rng.randint(0, 10)))
                change = random_change(rng, len(text))
                self.check(lexer, text, change)

    def check(self, lexer, text, change):
        after = apply_change(text, change)
        rows, read = relex(lexer, text, change)
        self.assertEqual(tuple(row[:5] for row in rows), tokens(lexer, after))
        old = tokens(lexer, text)
        size = 0
        for _, start, _, mode, looked, number in rows:
            expected = [index for index, (_, begin, _, old_mode, old_looked) in enumerate(old)
                        if old_mode == mode and carry_place(len(text), change, begin) == start
                        and all(stop <= begin or (old_looked <= len(text) and first >= old_looked)
                                for first, stop, _ in change)]
            self.assertEqual([] if number is None else [number], expected)
            size += 0 if expected else min(looked, len(after)) - start
        self.assertEqual(read, size)


if __name__ == "__main__":
    unittest.main()
