"""What a language says about names ([G1] to [G3])."""

import itertools
import unittest

from tongues.errors import TongueError
from tongues.facts import BadFact, check_facts
from tests.languages import language_of
from tests.raising import raised

RULES = [
    ("node", "file", [("many", "item", "items")]),
    ("choice", "item", ["let", "bring"]),
    ("node", "let", [("word", "let"), ("token", "word", "name"), ("token", "word", "other"), ("child", "sum", "value"),
                     ("maybe", "more", "more"), ("many", "tail", "tails", ",")]),
    ("node", "more", [("word", "more"), ("token", "word", "name")]),
    ("node", "tail", [("word", "."), ("token", "word", "name")]),
    ("node", "bring", [("word", "bring"), ("token", "word", "file"), ("token", "word", "name")]),
    ("operators", "sum", "number", [("left", [("+", "plus")]), ("right", [("^", "power")]), ("none", [("=", "same")]),
                                    ("prefix", [("-", "minus")]), ("postfix", [("!", "factorial")])], ("(", ")")),
    ("node", "number", [("token", "number", "digits")])]
SPACES = ["values", "kinds"]


def language(names, spaces=tuple(SPACES)):
    return language_of(RULES, "file", spaces=list(spaces), names=list(names))


class Case(unittest.TestCase):
    def right(self, *names, spaces=tuple(SPACES)):
        self.assertIsNone(check_facts(language(names, spaces)))

    def wrong(self, names, number, reason, spaces=tuple(SPACES)):
        self.assertEqual(raised(check_facts, language(names, spaces)), ("BadFact", {"number": number, "reason": reason}))


class SpacesTest(Case):
    def test_the_error(self):
        self.assertEqual(BadFact.__bases__, (TongueError,))

    def test_numbers_of_spaces(self):
        names = [letter * 12 for letter in "abcdefghijklm"]
        for many in (0, 1, 12):
            self.right(spaces=names[:many])
        self.wrong((), None, "spaces", names)

    def test_wrong_spaces(self):
        for name in ("", "A", "a1", "a b", "abcdefghijklm"):
            self.wrong((), 1, "space", ["good", name, ""])
        self.wrong((), 2, "space", ["a", "b", "a", "b"])
        self.right(spaces=["a", "b", "abcdefghijkl"])

    def test_which_comes_first(self):
        self.wrong([()] * 61, None, "spaces", ["", ""] + ["a"] * 11)
        self.wrong([()] * 61, 0, "space", ["", ""])
        self.wrong([()] * 61, None, "facts")

    def test_no_sections(self):
        self.assertIsNone(check_facts(language_of(RULES, "file")))
        self.wrong([("declares", "let", "name", "values")], 0, "space", ())


class FactsTest(Case):
    def test_numbers_of_facts(self):
        many = [("node", "file", [("many", "item", "items")]), ("choice", "item", ["n" + chr(97 + k) for k in range(6)])]
        many += [("node", "n" + chr(97 + k), [("word", "w" + chr(97 + k))] +
                  [("token", "word", "f" + chr(97 + place)) for place in range(11)]) for k in range(6)]
        facts = [("declares", "n" + chr(97 + k), "f" + chr(97 + place), "a") for k in range(6) for place in range(11)]
        for number in (0, 1, 60):
            self.assertIsNone(check_facts(language_of(many, "file", spaces=["a"], names=facts[:number])))
        self.assertEqual(raised(check_facts, language_of(many, "file", spaces=["a"], names=facts[:61])),
                         ("BadFact", {"number": None, "reason": "facts"}))

    def test_words(self):
        for fact in ((), ("",), ("open", "let"), ("declare", "let", "name", "values"), ("nothing",)):
            self.wrong([("opens", "let"), fact], 1, "word")

    def test_nodes(self):
        for word in ("opens", "declares", "refers", "brings", "lists"):
            self.wrong([(word,)], 0, "node")
            for node in ("sum", "item", "nothing", "", "word"):
                self.wrong([(word, node, "nothing", "nothing", "nothing", "nothing")], 0, "node")
        for node in ("let", "file", "number", "plus", "power", "same", "minus", "factorial"):
            self.right(("opens", node))

    def test_opens(self):
        fields = ("name", "other", "value", "more", "tails")
        for many in range(6):
            for some in itertools.permutations(fields, many):
                self.right(("opens", "let") + some)
        self.right(("opens", "plus", "right", "left"), ("opens", "minus", "operand"), ("opens", "file", "items"))
        for wrong in (("nothing",), ("name", "name"), ("name", "other", "value", "name"), ("name", "left"), ("",)):
            self.wrong([("opens", "let") + wrong], 0, "field")
        self.wrong([("opens", "plus", "operand")], 0, "field")
        self.wrong([("opens", "minus", "left")], 0, "field")

    def test_token_fields(self):
        for word in ("declares", "refers", "lists"):
            self.right((word, "let", "name", "values"), (word, "let", "other", "kinds"))
            for field in ("value", "more", "tails", "nothing", ""):
                self.wrong([(word, "let", field, "nothing", "x", "x")], 0, "field")
            self.wrong([(word, "let")], 0, "field")
            for node, field in (("plus", "left"), ("minus", "operand"), ("file", "items")):
                self.wrong([(word, node, field, "values")], 0, "field")
        for field in ("value", "more", "tails", "nothing"):
            self.wrong([("brings", "let", field, "x")], 0, "field")
        self.wrong([("brings", "let")], 0, "field")

    def test_space(self):
        for word in ("declares", "refers", "lists"):
            self.wrong([(word, "let", "name")], 0, "space")
            for space in ("", "nothing", "value"):
                self.wrong([(word, "let", "name", space, "x", "x")], 0, "space")

    def test_flags_of_declarations(self):
        flags = ("behind", "own", "inside", "gives")
        for many in range(5):
            for some in itertools.permutations(flags, many):
                fact = ("declares", "let", "name", "values") + some
                if "behind" in some and "own" in some:
                    self.wrong([("opens", "let"), fact], 1, "both")
                else:
                    self.right(("opens", "let"), fact)
        for wrong in (("x",), ("",), ("gives", "gives"), ("behind", "behind"), ("own", "own", "behind"), ("whole",),
                      ("behind", "own", "x"), ("quoted",)):
            self.wrong([("declares", "let", "name", "values") + wrong], 0, "flag")

    def test_flags_of_what_is_brought(self):
        flags = ("quoted", "whole", "gives")
        for many in range(4):
            for some in itertools.permutations(flags, many):
                self.right(("brings", "bring", "file") + some)
        for wrong in (("x",), ("whole", "whole"), ("gives", "quoted", "whole", "gives"), ("values",), ("behind",), ("",)):
            self.wrong([("brings", "bring", "file") + wrong], 0, "flag")

    def test_sizes(self):
        self.right(("lists", "let", "name", "values"))
        for rest in (("x",), ("gives",), ("value",)):
            self.wrong([("lists", "let", "name", "values") + rest], 0, "size")
        self.right(("refers", "let", "name", "values"), ("refers", "let", "other", "values", "value"))
        for rest in (("value", "x"), ("x", "x"), ("value", "more", "x")):
            self.wrong([("refers", "let", "name", "values") + rest], 0, "size")

    def test_children(self):
        for field in ("value", "more"):
            self.right(("refers", "let", "name", "values", field))
        for field in ("name", "other", "tails", "nothing", "left", ""):
            self.wrong([("refers", "let", "name", "values", field)], 0, "child")

    def test_the_first_reason_of_several(self):
        self.wrong([("x", "x", "x", "x", "x")], 0, "word")
        self.wrong([("declares", "x", "x", "x", "x")], 0, "node")
        self.wrong([("declares", "let", "x", "x", "x")], 0, "field")
        self.wrong([("declares", "let", "name", "x", "x")], 0, "space")
        self.wrong([("declares", "let", "name", "values", "behind", "own", "x")], 0, "flag")
        self.wrong([("opens", "let"), ("x",), ("declares", "x")], 1, "word")

    def test_lists_and_tuples(self):
        self.right(["opens", "let", "name"], ("declares", "let", "name", "values", "inside"), ["brings", "bring", "file"])
        self.wrong([["opens", "let"], ["lists", "let", "name", "values", "x"]], 1, "size")


class TogetherTest(Case):
    def test_what_goes_together(self):
        self.right(("opens", "let"), ("opens", "more"), ("opens", "file"))
        self.right(("brings", "bring", "file"), ("brings", "more", "name"))
        self.right(("declares", "let", "name", "values"), ("refers", "let", "other", "values"),
                   ("refers", "more", "name", "kinds"), ("lists", "bring", "name", "values"), ("brings", "bring", "file"))
        self.right(("brings", "bring", "file"), ("declares", "bring", "name", "values"))
        self.right(("opens", "let", "name"), ("declares", "let", "name", "values"))

    def test_what_does_not(self):
        naming = (("declares", "let", "name", "values"), ("refers", "let", "name", "kinds"), ("brings", "let", "name"),
                  ("lists", "let", "name", "values"))
        for first in naming:
            for second in naming:
                self.wrong([first, ("opens", "let"), second], 2, "together")
        self.wrong([("opens", "let"), ("opens", "more"), ("opens", "let", "name")], 2, "together")
        self.wrong([("brings", "let", "name"), ("brings", "let", "other")], 1, "together")

    def test_inside(self):
        for fact in (("declares", "let", "name", "values", "inside"), ("declares", "let", "name", "values", "gives", "inside")):
            self.wrong([("opens", "more"), fact], 1, "inside")
            self.right(fact, ("opens", "let"))
            self.right(("opens", "let", "name"), fact)
        self.right(("declares", "let", "name", "values", "own"))

    def test_which_comes_first(self):
        inside = ("declares", "let", "name", "values", "inside")
        # All reasons of facts alone come ahead of these two.
        self.wrong([inside, inside, ("lists", "let", "other", "values", "x")], 2, "size")
        self.wrong([inside, inside], 0, "inside")
        self.wrong([("lists", "let", "name", "values"), inside], 1, "together")
        self.wrong([("opens", "let"), inside, ("opens", "let"), ("declares", "more", "name", "values", "inside")],
                   2, "together")

    def test_spaces_that_are_called_as_flags(self):
        self.right(("declares", "let", "name", "inside"), ("lists", "bring", "name", "gives"), spaces=["inside", "gives"])
        self.right(("refers", "let", "name", "inside", "value"), spaces=["inside"])


if __name__ == "__main__":
    unittest.main()
