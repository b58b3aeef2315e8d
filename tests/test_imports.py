"""What a language says about imports and definitions ([K1] to [K3])."""

import unittest

from tongues.errors import TongueError
from tongues.facts import check_facts
from tongues.grammar import faults
from tongues.imports import BadDefinition, BadImport, check_imports, file_texts, written_node
from tests.languages import language_of
from tests.modules import DEFINITIONS, IMPORTS, NAMES, RULES, modules
from tests.raising import raised

LISTING = ("import", "from", "file", "bringers", "picks", "plain", "name")
WHOLE = ("import", "use", "file", "bringers")
DEFINITION = ("definition", "def", "name", "body")


class ImportsTest(unittest.TestCase):
    def check(self, expected, *rows, **more):
        """The error of a language with these rows of imports, as a pair; None if there is none."""
        found = raised(check_imports, modules(imports=rows, **more))
        self.assertEqual(found, expected and ("BadImport", dict(zip(("number", "reason"), expected))), rows)

    def changed(self, row, index, word):
        return row[:index] + (word,) + row[index + 1:]

    def test_the_language(self):
        language = modules()
        self.assertEqual((faults(language), check_facts(language), check_imports(language)), ([], None, None))
        self.assertEqual((language.imports, language.definitions), (tuple(IMPORTS), tuple(DEFINITIONS)))

    def test_the_errors(self):
        for error in (BadImport, BadDefinition):
            self.assertEqual(error.__bases__, (TongueError,))
            self.assertEqual((error(3, "node").number, error(3, "node").reason), (3, "node"))

    def test_rows_with_and_without_a_list(self):
        for rows in ((), (LISTING,), (WHOLE,), (WHOLE, LISTING, WHOLE), ([*LISTING], [*WHOLE])):
            self.check(None, *rows)
        self.assertIsNone(check_imports(modules(imports=[[*WHOLE]], definitions=[[*DEFINITION]])))

    def test_length(self):
        for row in ((), ("import",), WHOLE[:3], WHOLE + ("picks",), LISTING[:6], LISTING + ("name",)):
            self.check((0, "length"), row)

    def test_word(self):
        for row in (WHOLE, LISTING):
            self.check((0, "word"), self.changed(row, 0, "definition"))
            self.check((0, "word"), self.changed(row, 0, "imports"))

    def test_node(self):
        # No rule; a choice; an operators rule; an operator's node.
        for name in ("nothing", "bringer", "sum", "plus"):
            self.check((0, "node"), self.changed(WHOLE, 1, name))
            self.check((0, "node"), self.changed(LISTING, 1, name))

    def test_field(self):
        for field in ("nothing", "picks", "name"):
            self.check((0, "field"), self.changed(LISTING, 2, field))
        self.check((0, "field"), ("import", "show", "value", "bringers"))

    def test_brings(self):
        # No fact; one with the flag "whole" for a row with a list; one without it for a row without one.
        self.check((0, "brings"), ("import", "def", "name", "bringers"))
        self.check((0, "brings"), ("import", "use", "file", "bringers", "picks", "plain", "name"))
        self.check((0, "brings"), ("import", "from", "file", "bringers"))
        self.check(None, ("import", "hand", "file", "bringers", "picks", "plain", "name"))
        whole = [("brings", "from", "file", "gives", "whole", "quoted") if fact[:2] == ("brings", "from") else fact for fact in NAMES]
        self.check(None, ("import", "from", "file", "bringers"), names=whole)
        self.check((0, "brings"), LISTING, names=whole)
        # The fact has to be about the field.
        rules = [(*rule[:2], [*rule[2], ("token", "word", "other")]) if rule[1] == "use" else rule for rule in RULES]
        self.check((0, "brings"), ("import", "use", "other", "bringers"), rules=rules)

    def test_list(self):
        for field in ("nothing", "coda", "picks"):
            self.check((0, "list"), self.changed(WHOLE, 3, field))
            self.check((0, "list"), self.changed(LISTING, 3, field))
        self.check(None, self.changed(WHOLE, 3, "items"))
        # A start rule that is no node rule.
        self.check((0, "list"), WHOLE, rules=RULES + [("choice", "start", ["file"])], start="start")
        self.check((0, "list"), WHOLE, rules=RULES, start="sum")

    def test_items(self):
        for field in ("nothing", "file", "items"):
            self.check((0, "items"), self.changed(LISTING, 4, field))

    def test_item(self):
        for name in ("nothing", "pick", "sum", "plus"):
            self.check((0, "item"), self.changed(LISTING, 5, name))

    def test_name_and_lists(self):
        for field in ("nothing", "picks"):
            self.check((0, "name"), self.changed(LISTING, 6, field))
        self.check((0, "name"), ("import", "from", "file", "bringers", "picks", "show", "value"))
        self.check((0, "lists"), ("import", "from", "file", "bringers", "picks", "name", "name"))
        self.check((0, "lists"), ("import", "from", "file", "bringers", "picks", "other", "alias"))
        self.check(None, ("import", "from", "file", "bringers", "picks", "other", "name"))
        self.check(None, ("import", "from", "file", "bringers", "picks", "unit", "name"))

    def test_the_first_of_several_reasons(self):
        row = ["imports", "nothing", "nothing", "nothing", "nothing", "nothing", "nothing"]
        for number, reason in enumerate(("word", "node", "field", "list", "items", "item", "name")):
            self.check((0, reason), tuple(row))
            row[number] = LISTING[number]
        self.check((0, "brings"), ("import", "def", "name", "nothing", "nothing", "nothing", "nothing"))
        self.check((0, "length"), ("imports",) * 5)

    def test_the_first_of_several_rows(self):
        self.check((2, "node"), WHOLE, LISTING, self.changed(WHOLE, 1, "x"), self.changed(WHOLE, 0, "x"))
        self.check((1, "lists"), WHOLE, self.changed(LISTING, 5, "name"), ())

    def test_how_many_rows(self):
        self.check(None, *[WHOLE] * 12)
        self.check((None, "imports"), *[WHOLE] * 13)
        self.check((None, "imports"), *[()] * 13)
        self.check((11, "length"), *[WHOLE] * 11, ())


class DefinitionsTest(unittest.TestCase):
    def check(self, expected, *rows, **more):
        found = raised(check_imports, modules(definitions=rows, **more))
        self.assertEqual(found, expected and ("BadDefinition", dict(zip(("number", "reason"), expected))), rows)

    def test_rows(self):
        for rows in ((), (DEFINITION,), ([*DEFINITION], DEFINITION), (DEFINITION,) * 12):
            self.check(None, *rows)
        self.check((None, "definitions"), *[DEFINITION] * 13)
        self.check((None, "definitions"), *[()] * 13)

    def test_every_reason(self):
        for reason, rows in (
                ("length", ((), DEFINITION[:3], DEFINITION + ("x",))), ("word", (("import",) + DEFINITION[1:],)),
                ("node", [("definition", name, "name", "body") for name in ("nothing", "item", "sum", "plus")]),
                ("name", [("definition", "def", name, "body") for name in ("nothing", "body", "note")]),
                ("declares", (("definition", "note", "text", "body"), ("definition", "name", "name", "body"),
                              ("definition", "plain", "name", "body"))),
                ("body", [("definition", "def", "name", body) for body in ("nothing", "name")]),
                ("body", (("definition", "measure", "name", "name"),))):
            for row in rows:
                self.check((0, reason), row)
                self.check((1, reason), DEFINITION, row, ())
        # A child field is that of a part "child" or "maybe".
        self.check(None, ("definition", "def", "name", "note"))

    def test_a_list_field_is_no_child_field(self):
        language = language_of([("node", "file", [("token", "word", "name"), ("many", "file", "body")])], "file", spaces=["v"],
                               names=[("declares", "file", "name", "v")], definitions=[("definition", "file", "name", "body")])
        self.assertEqual(raised(check_imports, language), ("BadDefinition", {"number": 0, "reason": "body"}))

    def test_the_first_of_several_reasons(self):
        row = ["x", "nothing", "nothing", "nothing"]
        for number, reason in enumerate(("word", "node", "name", "body")):
            self.check((0, reason), tuple(row))
            row[number] = DEFINITION[number]
        self.check((0, "declares"), ("definition", "note", "text", "nothing"))

    def test_imports_come_first(self):
        self.assertEqual(raised(check_imports, modules(imports=[WHOLE, ()], definitions=[()] * 13)),
                         ("BadImport", {"number": 1, "reason": "length"}))
        self.assertEqual(raised(check_imports, modules(imports=[WHOLE], definitions=[DEFINITION, ()])),
                         ("BadDefinition", {"number": 1, "reason": "length"}))


class WrittenTest(unittest.TestCase):
    RULE = ("node", "x", (("word", "a"), ("token", "word", "b"), ("child", "r", "c"), ("maybe", "r", "d"),
                          ("many", "r", "e", ","), ("word", "f")))

    def test_with_and_without_texts(self):
        for texts, expected, places in (
                ({"b": "B", "c": "CC"}, "a B CC f", {"b": 2, "c": 4}),
                ({"b": "B", "c": "CC", "d": "D"}, "a B CC D f", {"b": 2, "c": 4, "d": 7}),
                ({"e": "E, E", "c": "CC", "b": "B"}, "a B CC E, E f", {"b": 2, "c": 4, "e": 7})):
            self.assertEqual(written_node(self.RULE, texts), (expected, places))

    def test_what_cannot_be_written(self):
        for texts in ({}, {"b": "B"}, {"c": "C"}, {"d": "D", "e": "E"}):
            self.assertIsNone(written_node(self.RULE, texts))

    def test_words_alone(self):
        self.assertEqual(written_node(("node", "x", (("word", "a"), ("many", "r", "b", None))), {}), ("a", {}))
        self.assertEqual(written_node(("node", "x", ()), {}), ("", {}))

    def test_names_of_files(self):
        language = modules()
        self.assertEqual(file_texts(language, "from", "file", "m"), ["m"])
        self.assertEqual(file_texts(language, "use", "file", "m"), ["\"m\"", "'m'", "`m`"])


if __name__ == "__main__":
    unittest.main()
