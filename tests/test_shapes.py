"""Shapes of nodes ([H1])."""

import unittest

from tongues.grammar import faults
from tongues.shapes import Shapes
from tests.languages import CALCULUS, LETS, OPTIONS, example, language_of

# Choices within choices, operators rules as bases of others, with and without brackets.
RULES = [
    ("operators", "outer", "inner", [("left", [("+", "plus")]), ("prefix", [("-", "minus")])], ("(", ")")),
    ("node", "file", [("word", "begin"), ("token", "word", "name"), ("maybe", "some", "some"), ("child", "outer", "value"),
                      ("many", "pick", "picks", ","), ("token", "number", "last"), ("many", "mark", "marks")]),
    ("choice", "some", ["other", "mark"]), ("choice", "other", ["dot", "inner"]), ("node", "dot", [("word", ".")]),
    ("operators", "inner", "atom", [("right", [("^", "power"), ("**", "twice")]), ("postfix", [("?", "asked")])]),
    ("choice", "atom", ["name", "text"]), ("node", "name", [("token", "word", "name")]),
    ("node", "text", [("word", "'"), ("maybe", "name", "inside"), ("word", "'")]),
    ("choice", "pick", ["outer", "mark"]), ("node", "mark", [("word", "!")])]


class ShapesTest(unittest.TestCase):
    def setUp(self):
        self.shapes = Shapes(language_of(RULES, "file"))

    def test_nodes(self):
        self.assertEqual(self.shapes.nodes, ["file", "dot", "name", "text", "mark", "plus", "minus", "power", "twice", "asked"])
        self.assertEqual(Shapes(example(LETS)).nodes, ["file", "let", "show", "name", "number", "plus", "minus"])
        self.assertEqual(Shapes(example(OPTIONS)).nodes, ["number", "body", "head", "line", "digit", "foot", "mark"])

    def test_is_node(self):
        for name in self.shapes.nodes:
            self.assertIs(self.shapes.is_node(name), True)
        for name in ("outer", "inner", "some", "atom", "pick", "word", "nothing", "", "left"):
            self.assertIs(self.shapes.is_node(name), False)

    def test_fields(self):
        fields = {
            "file": [("name", ("token", "word")), ("some", ("one", "some")), ("value", ("one", "outer")),
                     ("picks", ("many", "pick")), ("last", ("token", "number")), ("marks", ("many", "mark"))],
            "dot": [], "name": [("name", ("token", "word"))], "text": [("inside", ("one", "name"))], "mark": [],
            "plus": [("left", ("one", "outer")), ("right", ("one", "outer"))], "minus": [("operand", ("one", "outer"))],
            "power": [("left", ("one", "inner")), ("right", ("one", "inner"))],
            "twice": [("left", ("one", "inner")), ("right", ("one", "inner"))], "asked": [("operand", ("one", "inner"))]}
        for node, expected in fields.items():
            self.assertEqual(list(self.shapes.fields(node).items()), expected)

    def test_fields_of_every_way(self):
        shapes = Shapes(example(CALCULUS))
        for node in ("implies", "either", "same"):
            self.assertEqual(list(shapes.fields(node)), ["left", "right"])
        for node in ("negation", "factorial", "hash"):
            self.assertEqual(list(shapes.fields(node)), ["operand"])

    def test_can_be(self):
        inner = ["name", "text", "power", "twice", "asked"]
        outer = ["name", "text", "plus", "minus", "power", "twice", "asked"]
        for name, expected in (
                ("outer", outer), ("inner", inner), ("atom", ["name", "text"]), ("other", ["dot"] + inner),
                ("some", ["dot", "name", "text", "mark", "power", "twice", "asked"]),
                ("pick", ["name", "text", "mark", "plus", "minus", "power", "twice", "asked"]), ("nothing", [])):
            self.assertEqual(self.shapes.can_be(name), expected)
            self.assertEqual(self.shapes.can_be(name), expected)
        for node in self.shapes.nodes:
            self.assertEqual(self.shapes.can_be(node), [node])

    def test_the_order_is_that_of_the_nodes(self):
        rules = [("choice", "file", ["b", "a", "sum"]), ("node", "a", [("word", "x")]), ("node", "b", [("word", "y")]),
                 ("operators", "sum", "c", [("left", [("+", "plus")])]), ("node", "c", [("word", "z")])]
        language = language_of(rules, "file")
        self.assertEqual(faults(language), [])
        self.assertEqual(Shapes(language).can_be("file"), ["a", "b", "c", "plus"])

    def test_what_is_returned_may_be_changed(self):
        before = (list(self.shapes.nodes), self.shapes.fields("file"), self.shapes.can_be("outer"))
        self.shapes.fields("file").clear()
        self.shapes.can_be("outer").clear()
        self.assertEqual((self.shapes.nodes, self.shapes.fields("file"), self.shapes.can_be("outer")), before)
        self.shapes.nodes.clear()
        self.assertTrue(self.shapes.is_node("file"))
        self.assertEqual(self.shapes.can_be("pick"), ["name", "text", "mark", "plus", "minus", "power", "twice", "asked"])
        self.assertEqual(self.shapes.fields("file"), before[1])

    def test_the_languages_have_no_faults(self):
        rules = RULES[1:2] + RULES[:1] + RULES[2:]
        found = faults(language_of(rules, "file"))
        self.assertEqual([fault for fault in found if fault[0] != "clash"], [])


if __name__ == "__main__":
    unittest.main()
