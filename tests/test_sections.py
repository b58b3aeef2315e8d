"""The sections about attributes ([H1] to [H3])."""

import unittest

from tongues.errors import TongueError
from tongues.expressions import read_expression
from tongues.languages import Language
from tongues.sections import BadSection, Sections
from tests.attributing import ATTRIBUTES, CHECKS, EQUATIONS, attributing
from tests.languages import LETS
from tests.raising import raised

LONG = "abcdefghijklm"


def sections(attributes=(), equations=(), checks=()):
    return Sections(Language({**LETS, "attributes": attributes, "equations": equations, "checks": checks}))


class Case(unittest.TestCase):
    def wrong(self, section, number, reason, **given):
        self.assertEqual(raised(lambda: sections(**given)),
                         ("BadSection", {"section": section, "number": number, "reason": reason}), given)


class RightTest(Case):
    def test_the_error(self):
        self.assertEqual(BadSection.__bases__, (TongueError,))

    def test_no_sections(self):
        told = Sections(Language(LETS))
        self.assertEqual((told.attributes, told.equations, told.checks), ((), (), ()))
        self.assertIsNone(told.attribute("worth"))
        self.assertIsNone(told.equation("let", None, "worth"))

    def test_every_section(self):
        told = Sections(Language(attributing()))
        self.assertEqual(told.attributes, tuple(
            [(name, way, sort, tuple(rules), read_expression(root[0]) if root else None)
             for name, way, sort, rules, *root in ATTRIBUTES]))
        self.assertEqual(told.equations, tuple(
            [(row[0], None if len(row) == 3 else row[1], row[-2], read_expression(row[-1])) for row in EQUATIONS]))
        self.assertEqual(told.checks, tuple([(node, read_expression(one), read_expression(two)) for node, one, two in CHECKS]))

    def test_lists_and_tuples(self):
        told = sections([["a", "up", "integer", ("let", "sum")], ("b", "down", "text", ["let"], '"x"')],
                        [["let", "a", "1"], ("show", "value", "b", "2")], [["let", "true", '"no"'], ("show", "false", '""')])
        self.assertEqual(told.attributes, (("a", "up", "integer", ("let", "sum"), None),
                                           ("b", "down", "text", ("let",), ("text", "x"))))
        self.assertEqual(told.equations, (("let", None, "a", ("integer", 1)), ("show", "value", "b", ("integer", 2))))
        self.assertEqual(told.checks, (("let", ("boolean", True), ("text", "no")), ("show", ("boolean", False), ("text", ""))))

    def test_names_need_not_be_known(self):
        name = "abcdefghijkl"
        told = sections([(name, "up", "boolean", [name, "a"])], [(name, name, "1"), (name, name, name, "1")],
                        [(name, "1", "1")])
        self.assertEqual(told.attribute(name), (name, "up", "boolean", (name, "a"), None))
        self.assertEqual(told.equation(name, None, name), ("integer", 1))

    def test_every_way_and_sort(self):
        for way in ("up", "down"):
            for sort in ("integer", "boolean", "text", "term"):
                self.assertEqual(sections([("a", way, sort, ["x"])]).attribute("a"), ("a", way, sort, ("x",), None))

    def test_the_first_of_several(self):
        told = sections([("a", "up", "integer", ["x"]), ("b", "up", "text", ["x"]), ("a", "down", "term", ["y"])],
                        [("n", "a", "1"), ("n", "f", "a", "2"), ("n", "a", "3"), ("n", "f", "a", "4"), ("n", "b", "5"),
                         ("m", "a", "6"), ("n", "g", "a", "7")])
        self.assertEqual(told.attribute("a"), ("a", "up", "integer", ("x",), None))
        self.assertEqual(told.attribute("b")[2], "text")
        self.assertIsNone(told.attribute("c"))
        for places, number in ((("n", None, "a"), 1), (("n", "f", "a"), 2), (("n", None, "b"), 5), (("m", None, "a"), 6),
                               (("n", "g", "a"), 7)):
            self.assertEqual(told.equation(*places), ("integer", number))
        for places in (("m", "f", "a"), ("n", "f", "b"), ("x", None, "a"), ("n", "h", "a"), ("f", "n", "a")):
            self.assertIsNone(told.equation(*places))
        self.assertEqual(len(told.equations), 7)


class WrongTest(Case):
    def test_lengths(self):
        for one in ((), ("A",), ("a", "up", "integer"), ("a", "up", "integer", ["x"], "1", "1")):
            self.wrong("attributes", 0, "length", attributes=[one])
        for one in ((), ("A",), ("a", "b"), ("a", "b", "c", "1", "1")):
            self.wrong("equations", 0, "length", equations=[one])
        for one in ((), ("a",), ("a", "true"), ("a", "b", "true", '"x"')):
            self.wrong("checks", 0, "length", checks=[one])

    def test_names(self):
        for name in ("", "A", "a1", LONG, "a b"):
            self.wrong("attributes", 0, "name", attributes=[(name, "x", "x", [], "A")])
            for equation in ((name, "a", "A"), ("a", name, "A"), (name, "a", "b", "A"), ("a", name, "b", "A"),
                             ("a", "b", name, "A")):
                self.wrong("equations", 0, "name", equations=[equation])
            self.wrong("checks", 0, "name", checks=[(name, "A", "A")])

    def test_ways_and_sorts(self):
        for way in ("", "Up", "both", "left"):
            self.wrong("attributes", 0, "way", attributes=[("a", way, "x", [], "A")])
        for sort in ("", "absent", "cycle", "Integer", "number"):
            self.wrong("attributes", 0, "sort", attributes=[("a", "up", sort, [], "A")])

    def test_rules(self):
        for rules in ([], (), ["A"], ["a", ""], ["a", LONG], ["a", "b1"]):
            self.wrong("attributes", 0, "rules", attributes=[("a", "up", "term", rules, "A")])
            self.wrong("attributes", 0, "rules", attributes=[("a", "up", "term", rules)])

    def test_expressions(self):
        for text in ("", "A", "1 2", "(own a", "01", "1000001", "(own " + LONG + ")"):
            self.wrong("attributes", 0, "expression", attributes=[("a", "up", "term", ["x"], text)])
            self.wrong("equations", 0, "expression", equations=[("a", "b", text)])
            self.wrong("equations", 0, "expression", equations=[("a", "b", "c", text)])
            self.wrong("checks", 0, "expression", checks=[("a", text, "1")])
            self.wrong("checks", 0, "expression", checks=[("a", "1", text)])

    def test_the_first_element(self):
        right, wrong = ("a", "up", "integer", ["x"]), ("a", "up", "integer", [])
        self.wrong("attributes", 2, "rules", attributes=[right, right, wrong, ("A",)], equations=[()], checks=[()])
        self.wrong("equations", 1, "name", attributes=[right], equations=[("a", "b", "1"), ("A", "b", "A"), ()], checks=[()])
        self.wrong("checks", 1, "expression", attributes=[right], equations=[("a", "b", "1")],
                   checks=[("a", "1", "1"), ("a", "1", "A"), ()])


if __name__ == "__main__":
    unittest.main()
