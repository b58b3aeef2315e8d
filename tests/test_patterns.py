"""Patterns: trees, canonical texts and what is no pattern ([B1], [B2], [B4] to [B6])."""

import random
import unittest

from tongues.errors import BadPattern
from tongues.patterns import ALPHABET, can_be_empty, read_pattern, write_pattern

A = ("chars", "a")
B = ("chars", "b")
C = ("chars", "c")


def random_pattern(rng, depth):
    """A text of the grammar, with needless parentheses."""
    sort = rng.randrange(9) if depth else rng.randrange(4)
    if sort < 2:
        return rng.choice("abc-^ ")
    if sort == 2:
        return rng.choice([".", "[a-c]", "[^a]", "[cab]", "[^\\n-y]", "[\\-]"])
    if sort == 3:
        return "\\" + rng.choice("n|*+?()[].\\^-")
    inner = [random_pattern(rng, depth - 1) for _ in range(rng.randint(1, 3))]
    if sort < 6:
        return "".join("(" + text + ")" for text in inner)
    if sort == 6:
        return "(" + "|".join(inner) + ")"
    if sort == 7:
        return "(" + inner[0] + ")" + rng.choice("*+?")
    return "|".join(inner)


class TreesTest(unittest.TestCase):
    def test_alphabet(self):
        self.assertEqual(len(ALPHABET), 95)
        self.assertEqual(ALPHABET, "\n" + "".join(chr(code) for code in range(32, 127) if chr(code) != "%"))

    def test_each_form(self):
        for text, tree in (
                ("a", A), (" ", ("chars", " ")), ("\n", ("chars", "\n")), ("-", ("chars", "-")), ("^", ("chars", "^")),
                (".", ("chars", ALPHABET)), ("\\n", ("chars", "\n")), ("\\.", ("chars", ".")),
                ("n", ("chars", "n")), ("{}", ("row", (("chars", "{"), ("chars", "}")))),
                ("ab", ("row", (A, B))), ("a|b", ("either", (A, B))), ("a*", ("star", A)), ("a+", ("plus", A)),
                ("a?", ("maybe", A)), ("ab*", ("row", (A, ("star", B)))), ("(ab)*", ("star", ("row", (A, B)))),
                ("a|bc", ("either", (A, ("row", (B, C))))), ("(a|b)c", ("row", (("either", (A, B)), C))),
                ("(a*)*", ("star", ("star", A))), ("(a?)+", ("plus", ("maybe", A)))):
            self.assertEqual(read_pattern(text), tree, text)

    def test_parentheses_leave_no_trace(self):
        for text, tree in (
                ("(a)", A), ("((a))", A), ("(ab)c", ("row", (A, B, C))), ("a(bc)", ("row", (A, B, C))),
                ("((a)((b)c))", ("row", (A, B, C))), ("(a|b)|c", ("either", (A, B, C))),
                ("a|(b|(c))", ("either", (A, B, C))), ("(a)*", ("star", A)),
                ("(ab|c)|a", ("either", (("row", (A, B)), C, A))), ("a(b)", ("row", (A, B)))):
            self.assertEqual(read_pattern(text), tree, text)

    def test_sets(self):
        for text, characters in (
                ("[a]", "a"), ("[ba]", "ab"), ("[aab]", "ab"), ("[b-da-c]", "abcd"), ("[a-a]", "a"),
                ("[.*(|]", "(*.|"), ("[\\n]", "\n"), ("[\n]", "\n"), ("[\\^\\-\\]\\\\]", "-\\]^"), ("[\\n-\\(]", "\n !\"#$&'("),
                ("[$-&]", "$&"), ("[^b-~]", ALPHABET[:ALPHABET.index("b")]), ("[^\\n-z]", "{|}~"),
                ("[^a]", ALPHABET.replace("a", "")), ("[^aa]", ALPHABET.replace("a", "")),
                ("[\\n-~]", ALPHABET), ("[[]", "["), ("[\\.]", "."), ("[ -!]", " !")):
            self.assertEqual(read_pattern(text), ("chars", characters), text)

    def test_escapes_stand_for_their_characters(self):
        for character in "|*+?()[].\\^-":
            self.assertEqual(read_pattern("\\" + character), ("chars", character))
            self.assertEqual(read_pattern("[\\" + character + "]"), ("chars", character))

    def test_deep_parentheses(self):
        self.assertEqual(read_pattern("(" * 40 + "a" + ")" * 40), A)
        self.assertEqual(write_pattern(read_pattern("(" * 40 + "a" + ")*" * 40)), "(" * 39 + "a*" + ")*" * 39)


class WrongPatternsTest(unittest.TestCase):
    def test_positions(self):
        for text, position in (
                # the end of the text where more is demanded
                ("", 0), ("a|", 2), ("(", 1), ("a(", 2), ("(a", 2), ("(a|", 3), ("((a)", 4), ("[", 1), ("[a", 2),
                ("[^", 2), ("[^a", 3), ("[a-", 3), ("[a-c", 4), ("\\", 1), ("[\\", 2), ("[a-\\", 4), ("ab\\", 3),
                # empty alternatives and groups
                ("|", 0), ("|a", 0), ("a||b", 2), ("()", 1), ("(|a)", 1), ("(a|)", 3), ("a|)", 2),
                # signs that do not fit
                ("*", 0), ("+a", 0), ("?", 0), ("a**", 2), ("a+?", 2), ("(*a)", 1), ("a|*", 2), (")", 0), ("a)", 1),
                ("(a))", 3), ("]", 0), ("a]", 1), ("a*)", 2),
                # escapes
                ("\\a", 1), ("\\x", 1), ("\\ ", 1), ("a\\N", 2), ("[\\a]", 2), ("[a-\\b]", 4), ("\\\n", 1),
                # sets
                ("[]", 1), ("[]a]", 1), ("[^]", 2), ("[^^]", 2), ("[a^]", 2), ("[-a]", 1), ("[a-]", 3), ("[a--]", 3),
                ("[a-^]", 3), ("[a-c-e]", 4), ("[a-b-]", 4),
                # the second character of a member before the first one
                ("[b-a]", 3), ("[ab-a]", 4), ("[b-\\n]", 3), ("[a-\\.]", 3), ("[\\^-\\\\]", 4), ("[b-a", 3),
                ("[~-\n]", 3), ("[b-aa-]", 3),
                # a set that matches nothing
                ("[^\\n-~]", 6), ("[^\\n -~]", 7), ("a[^\n-~]", 6), ("[^\\n-~", 6)):
            with self.assertRaises(BadPattern) as caught:
                read_pattern(text)
            self.assertEqual(caught.exception.position, position, text)


    def test_escapes_of_other_characters(self):
        for character in ALPHABET:
            if character not in "n|*+?()[].\\^-":
                for text, position in (("a\\" + character, 2), ("[\\" + character + "]", 2)):
                    with self.assertRaises(BadPattern) as caught:
                        read_pattern(text)
                    self.assertEqual(caught.exception.position, position)

    def test_characters_outside_of_the_alphabet(self):
        for text, position in (("a%", 1), ("[a%]", 2), ("[%]", 1), ("\t", 0), ("a\\%", 2)):
            with self.assertRaises(BadPattern) as caught:
                read_pattern(text)
            self.assertEqual(caught.exception.position, position)


class CanonicalTextTest(unittest.TestCase):
    def test_examples(self):
        for text, canonical in (("(a|[b-ca])?", "(a|[a-c])?"), ("(a|b)|(c)*", "a|b|c*"),
                                ("((ab)(c))*|[^\\n-z]", "(abc)*|[{-~]")):
            self.assertEqual(write_pattern(read_pattern(text)), canonical)

    def test_each_form(self):
        for text, canonical in (
                ("a", "a"), ("\n", "\\n"), ("[a]", "a"), ("[.]", "\\."), ("[\\n-~]", "."), (".", "."),
                ("[ab]", "[a-b]"), ("[abc]", "[a-c]"), ("[ac]", "[ac]"), ("[ca]", "[ac]"), ("[a-cx-z0-5q]", "[0-5a-cqx-z]"),
                ("[$&]", "[$-&]"), ("[\\n ]", "[\\n- ]"), ("[\n!]", "[\\n!]"), ("[^a]", "[\\n-`b-~]"), ("[^\\n]", "[ -~]"),
                ("(a*)*", "(a*)*"), ("(a+)?", "(a+)?"), ("(a?)*", "(a?)*"), ("(ab)+", "(ab)+"), ("(a|b)*", "(a|b)*"),
                ("([ab])*", "[a-b]*"), ("(a|b)c", "(a|b)c"), ("a(b|c)", "a(b|c)"), ("(ab)|c", "ab|c"),
                ("a|(b*)", "a|b*"), ("(a*)b", "a*b"), ("((a))", "a"), ("x(a)*", "xa*")):
            self.assertEqual(write_pattern(read_pattern(text)), canonical, text)

    def test_each_sign_outside_of_a_set(self):
        for character in ALPHABET:
            written = write_pattern(("chars", character))
            if character == "\n":
                self.assertEqual(written, "\\n")
            elif character in "|*+?()[].\\":
                self.assertEqual(written, "\\" + character)
            else:
                self.assertEqual(written, character)
            self.assertEqual(read_pattern(written), ("chars", character))

    def test_each_sign_within_a_set(self):
        self.assertEqual(write_pattern(("chars", "-]^")), "[\\-\\]-\\^]")
        self.assertEqual(write_pattern(("chars", "\\a")), "[\\\\a]")
        self.assertEqual(write_pattern(("chars", "(*.[|")), "[(*.[|]")
        self.assertEqual(write_pattern(("chars", "\n(")), "[\\n(]")
        self.assertEqual(write_pattern(("chars", "[\\]^")), "[[-\\^]")

    def test_it_is_read_as_the_same_tree(self):
        rng = random.Random(4)
        for _ in range(2000):
            tree = read_pattern(random_pattern(rng, 3))
            written = write_pattern(tree)
            self.assertEqual(read_pattern(written), tree)
            self.assertEqual(write_pattern(read_pattern(written)), written)
        for _ in range(500):
            characters = "".join(sorted(rng.sample(ALPHABET, rng.randint(1, 94))))
            self.assertEqual(read_pattern(write_pattern(("chars", characters))), ("chars", characters))


class CanBeEmptyTest(unittest.TestCase):
    def test_each_form(self):
        for text in ("a*", "a?", "(a*)+", "a*b?", "a|b*", "(a|b?)c*", "(ab)*", "(a+)?"):
            self.assertIs(can_be_empty(read_pattern(text)), True, text)
        for text in ("a", ".", "[^a]", "a+", "a*b", "a|b", "(a*b)+", "ab?"):
            self.assertIs(can_be_empty(read_pattern(text)), False, text)


if __name__ == "__main__":
    unittest.main()
