"""Places and what fits them ([F2], [F3])."""

import unittest

from tongues.grammar import faults
from tongues.places import fits, place_of
from tongues.trees import tree_of
from tests.languages import CALCULUS, LETS, OPTIONS, example, language_of

# Operators rules as bases of others, and choices around them.
TOWER = [
    ("node", "file", [("child", "outer", "first"), ("maybe", "tail", "tail"), ("many", "item", "items", ",")]),
    ("node", "tail", [("word", ":"), ("child", "inner", "inner")]),
    ("node", "item", [("word", "."), ("child", "pick", "pick")]),
    ("choice", "pick", ["inner", "mark"]),
    ("node", "mark", [("word", "!")]),
    ("operators", "outer", "inner", [("left", [("+", "plus")]), ("prefix", [("-", "minus")])], ("(", ")")),
    ("operators", "inner", "atom", [("right", [("^", "power")]), ("postfix", [("?", "asked")])]),
    ("choice", "atom", ["name", "number"]),
    ("node", "name", [("token", "word", "name")]), ("node", "number", [("token", "number", "digits")])]


def places(language, text):
    """For each node, in order, its text and its place."""
    tree = tree_of(language, text)
    return [(row[3], text[row[4]:row[5]]) + place_of(language, tree, number)
            for number, row in enumerate(tree) if row[2] == "node"]


class PlacesTest(unittest.TestCase):
    def test_the_outermost_node(self):
        self.assertEqual(places(example(LETS), ""), [("file", "", "file", 1)])
        self.assertEqual(places(example(OPTIONS), "1"), [("number", "1", "begin", 1)])
        self.assertEqual(places(example(OPTIONS), "$ foot"),
                         [("body", "$ foot", "begin", 1), ("foot", "foot", "foot", 1)])
        language = language_of(TOWER[5:], "outer")
        self.assertEqual(places(language, "1"), [("number", "1", "outer", 1)])
        self.assertEqual(places(language, "(1)"), [("outer", "(1)", "outer", 1), ("number", "1", "outer", 1)])

    def test_every_sort_of_part(self):
        self.assertEqual(places(language_of(TOWER, "file"), "1 : 2 . 3, . !"), [
            ("file", "1 : 2 . 3, . !", "file", 1), ("number", "1", "outer", 1), ("tail", ": 2", "tail", 1),
            ("number", "2", "inner", 1), ("item", ". 3", "item", 1), ("number", "3", "pick", 1),
            ("item", ". !", "item", 1), ("mark", "!", "pick", 1)])

    def test_every_way_and_side(self):
        language = example(CALCULUS)
        for text, expected in (
                ("not a", [("call", "a", "formula", 1)]),
                ("a -> b", [("call", "a", "formula", 3), ("call", "b", "formula", 2)]),
                ("a | b", [("call", "a", "formula", 3), ("call", "b", "formula", 4)]),
                ("a < b", [("call", "a", "formula", 5), ("call", "b", "formula", 5)]),
                ("a - b", [("call", "a", "formula", 5), ("call", "b", "formula", 6)]),
                ("~ a", [("call", "a", "formula", 6)]),
                ("a !", [("call", "a", "formula", 7)]),
                ("a ^ b", [("call", "a", "formula", 9), ("call", "b", "formula", 8)])):
            self.assertEqual(places(language, text)[2:], expected)

    def test_operands_of_operands(self):
        self.assertEqual(places(example(CALCULUS), "a + b + ~ c ^ d")[1:], [
            ("plus", "a + b + ~ c ^ d", "formula", 1), ("plus", "a + b", "formula", 5), ("call", "a", "formula", 5),
            ("call", "b", "formula", 6), ("negative", "~ c ^ d", "formula", 6), ("power", "c ^ d", "formula", 6),
            ("call", "c", "formula", 9), ("call", "d", "formula", 8)])

    def test_within_brackets(self):
        self.assertEqual(places(example(LETS), "show a + ((-b));")[2:], [
            ("plus", "a + ((-b))", "sum", 1), ("name", "a", "sum", 1), ("sum", "((-b))", "sum", 2),
            ("sum", "(-b)", "sum", 1), ("minus", "-b", "sum", 1), ("name", "b", "sum", 2)])

    def test_lists_with_a_word_between(self):
        self.assertEqual(places(example(CALCULUS), "f[a; 1]{x: 2 * 3}")[1:], [
            ("call", "f[a; 1]", "formula", 1), ("arguments", "[a; 1]", "arguments", 1), ("call", "a", "formula", 1),
            ("number", "1", "formula", 1)])
        self.assertEqual(places(example(CALCULUS), "{x: 2 * 3 @ y}")[2:], [
            ("entry", "x: 2 * 3", "entry", 1), ("times", "2 * 3", "bare", 1), ("plain", "2", "bare", 2),
            ("plain", "3", "bare", 3), ("tail", "@ y", "tail", 1)])

    def test_broken_texts(self):
        self.assertEqual(places(example(LETS), "$ show + 1 2"), [
            ("file", "$ show + 1 2", "file", 1), ("show", "show + 1 2", "item", 1),
            ("number", "1", "sum", 1)])


class FitsTest(unittest.TestCase):
    def fitting(self, language, rule, level, names):
        return [name for name in names if fits(language, (rule, level), name)]

    def test_levels_of_operators(self):
        language = language_of(TOWER, "file")
        self.assertEqual(faults(language), [])
        names = ["plus", "minus", "outer", "power", "asked", "inner", "name", "number", "mark", "item", "tail", "file",
                 "atom", "pick", "nothing"]
        below = ["power", "asked", "name", "number"]
        self.assertEqual(self.fitting(language, "outer", 1, names), ["plus", "minus", "outer"] + below)
        self.assertEqual(self.fitting(language, "outer", 2, names), ["minus", "outer"] + below)
        self.assertEqual(self.fitting(language, "outer", 3, names), ["outer"] + below)
        self.assertEqual(self.fitting(language, "inner", 1, names), below)
        self.assertEqual(self.fitting(language, "inner", 2, names), below[1:])
        self.assertEqual(self.fitting(language, "inner", 3, names), below[2:])

    def test_nodes_and_choices(self):
        language = language_of(TOWER, "file")
        names = ["plus", "outer", "power", "asked", "inner", "name", "number", "mark", "item", "atom", "pick"]
        self.assertEqual(self.fitting(language, "mark", 1, names), ["mark"])
        self.assertEqual(self.fitting(language, "item", 1, names), ["item"])
        self.assertEqual(self.fitting(language, "atom", 1, names), ["name", "number"])
        self.assertEqual(self.fitting(language, "pick", 1, names), ["power", "asked", "name", "number", "mark"])

    def test_every_level_of_the_calculus(self):
        language = example(CALCULUS)
        levels = [["negation"], ["implies", "implied"], ["either", "both"], ["same", "less"], ["plus", "minus"],
                  ["negative"], ["factorial", "asked"], ["power"]]
        names = [name for level in levels for name in level]
        for level in range(1, 10):
            later = [name for names_here in levels[level - 1:] for name in names_here]
            self.assertEqual(self.fitting(language, "formula", level, names), later)
            for name in ("formula", "call", "number", "list"):
                self.assertTrue(fits(language, ("formula", level), name))
            for name in ("entry", "plain", "times", "bare", "atom"):
                self.assertFalse(fits(language, ("formula", level), name))
        for level in (1, 2, 3):
            self.assertFalse(fits(language, ("bare", level), "bare"))

    def test_each_node_fits_its_place(self):
        language = example(CALCULUS)
        text = "not a -> b | (c & 1) = 2 + ~ d ! ^ e[1; f ? , (not g)"
        tree = tree_of(language, text)
        for number, row in enumerate(tree):
            if row[2] == "node":
                self.assertTrue(fits(language, place_of(language, tree, number), row[3]))


if __name__ == "__main__":
    unittest.main()
