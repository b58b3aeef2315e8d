"""Languages that are given as data ([C1] to [C3])."""

import copy
import unittest

from tongues.errors import BadLexer
from tongues.languages import BadLanguage, BadRule, Language
from tongues.tokens import Lexer
from tests.languages import LETS, TOKENS, language_of, sections_of

NODE = ("node", "file", [])


def as_lists(value):
    if isinstance(value, (list, tuple)):
        return [as_lists(part) for part in value]
    return value


def as_tuples(value):
    if isinstance(value, (list, tuple)):
        return tuple(as_tuples(part) for part in value)
    return value


def has_list(value):
    return isinstance(value, list) or isinstance(value, tuple) and any(map(has_list, value))


class SectionsTest(unittest.TestCase):
    OTHERS = ("spaces", "names", "attributes", "equations", "checks", "imports", "definitions")

    def test_missing_sections(self):
        language = Language(sections_of([NODE], "file"))
        self.assertEqual(language.modes, ("main",))
        for name in self.OTHERS:
            self.assertEqual(getattr(language, name), ())

    def test_empty_sections(self):
        for empty in ([], ()):
            language = Language(sections_of([NODE], "file", modes=empty, **{name: empty for name in self.OTHERS}))
            self.assertEqual(language.modes, ("main",))
            for name in self.OTHERS:
                self.assertEqual(getattr(language, name), ())

    def test_other_sections_are_kept_as_they_are(self):
        for name in self.OTHERS:
            language = Language(sections_of([NODE], "file", **{name: [["Any", ["thing"], None, 3, ()], []]}))
            self.assertEqual(getattr(language, name), (("Any", ("thing",), None, 3, ()), ()))

    def test_lists_and_tuples(self):
        told = []
        for kind in (as_lists, as_tuples):
            language = Language({name: kind(section) for name, section in LETS.items()})
            told.append((language.modes, language.rules, language.start, language.words, language.tokens))
        self.assertEqual(told[0], told[1])
        self.assertFalse(has_list(told[0]))

    def test_attributes(self):
        language = Language({**LETS, "modes": ["main", "other"], "tokens": TOKENS + [["in", "x", "other", "main"]]})
        self.assertEqual(language.modes, ("main", "other"))
        self.assertEqual(language.start, "file")
        self.assertEqual(language.words, ("let", "=", ";", "show", "+", "-", "(", ")"))
        self.assertEqual(language.tokens, (
            ("word", "[a-z]+", "main", "main", False), ("number", "[0-9]+", "main", "main", False),
            ("blank", "[ \n]+", "main", "main", True), ("in", "x", "other", "main", False)))
        self.assertIsInstance(language.lexer, Lexer)
        self.assertEqual(language.lexer.rules, language.tokens)
        self.assertEqual(language.lexer.words, language.words)
        self.assertEqual(language.lexer.modes, language.modes)
        self.assertEqual(language.rules[0], ("node", "file", (("many", "item", "items", None),)))
        self.assertEqual(language.rules[1], ("choice", "item", ("let", "show")))
        self.assertEqual(language.rules[4], ("operators", "sum", "atom", (
            ("left", (("+", "plus"),)), ("prefix", (("-", "minus"),))), ("(", ")")))

    def test_token_rules_with_elements_left_out(self):
        language = Language({**LETS, "modes": ("main", "two"), "tokens": [
            ("word", "a"), ("number", "b", "two"), ("c", "c", None, "two"), ("d", "d", "two", None, True)]})
        self.assertEqual(language.tokens, (
            ("word", "a", "main", "main", False), ("number", "b", "two", "two", False),
            ("c", "c", "main", "two", False), ("d", "d", "two", "two", True)))

    def test_elements_that_are_filled_in(self):
        told = []
        for part, brackets in ((("many", "b", "f"), ()), (("many", "b", "f", None), (None,))):
            rules = [("node", "a", [part]), ("operators", "b", "c", [("left", [("+", "p")])]) + brackets, ("node", "c", [])]
            told.append(language_of(rules, "a").rules)
        self.assertEqual(told[0], told[1])
        self.assertEqual(told[0][0], ("node", "a", (("many", "b", "f", None),)))
        self.assertEqual(told[0][1], ("operators", "b", "c", (("left", (("+", "p"),)),), None))

    def test_the_order_of_the_words(self):
        language = language_of([
            ("operators", "a", "b", [("left", [("+", "p"), ("b", "q")]), ("prefix", [("-", "m")])], ("(", ")")),
            ("node", "b", [("word", "x"), ("many", "c", "f", ","), ("token", "word", "g"), ("word", "("), ("word", "y")]),
            ("choice", "c", ["d", "e"]),
            ("node", "d", [("maybe", "b", "h"), ("word", "z"), ("word", "x")]),
            ("operators", "e", "b", [("postfix", [("!", "n"), ("+", "o")])])], "a")
        self.assertEqual(language.words, ("+", "b", "-", "(", ")", "x", ",", "y", "z", "!"))
        self.assertEqual(language.lexer.words, language.words)

    def test_rule(self):
        language = language_of([NODE, ("node", "b", []), ("choice", "file", ["b"])], "file")
        self.assertEqual(language.rule("file"), ("node", "file", ()))
        self.assertEqual(language.rule("b"), ("node", "b", ()))
        self.assertIsNone(language.rule("c"))

    def test_later_changes_have_no_effect(self):
        sections = copy.deepcopy(LETS)
        sections.update({name: [["a", ["b"]]] for name in self.OTHERS}, modes=["main"])
        before = copy.deepcopy(sections)
        language = Language(sections)
        self.assertEqual(sections, before)
        told = [copy.deepcopy(getattr(language, name)) for name in ("modes", "rules", "words", "tokens", *self.OTHERS)]
        sections["rules"][0][2].clear()
        sections["rules"].pop()
        sections["tokens"].clear()
        sections["modes"].append("b")
        for name in self.OTHERS:
            sections[name][0][1].append("c")
        sections["start"] = "none"
        now = [getattr(language, name) for name in ("modes", "rules", "words", "tokens", *self.OTHERS)]
        self.assertEqual(now, told)
        self.assertEqual(language.start, "file")
        self.assertEqual(language.rule("file"), ("node", "file", (("many", "item", "items", None),)))


class ErrorsTest(unittest.TestCase):
    def reason(self, *rules, start="file", **more):
        """The error for some rules: what is raised, for lists and for tuples."""
        told = []
        for kind in (as_lists, as_tuples):
            sections = sections_of(list(rules), start, **more)
            try:
                Language({name: kind(section) for name, section in sections.items()})
                told.append(None)
            except BadLanguage as wrong:
                told.append(wrong.reason)
            except (BadRule, BadLexer) as wrong:
                told.append((type(wrong), wrong.number, wrong.reason))
        self.assertEqual(told[0], told[1])
        return told[0]

    def rule_reason(self, rule):
        """The reason for a rule behind a right one and ahead of a wrong one."""
        told = self.reason(NODE, rule, ("node", "", []))
        self.assertEqual(told[:2], (BadRule, 1))
        # The wrong one behind it is reached if the rule is right.
        return told[2]

    def is_right(self, rule):
        self.assertEqual(self.reason(NODE, rule, ("node", "", [])), (BadRule, 2, "name"), rule)

    def test_number_of_rules(self):
        names = ["r" + letter for letter in "abcdefghijklmnopqrstuvwxyz"] + ["s" + letter for letter in "abcde"]
        rules = [("node", name, []) for name in names]
        self.assertIsNone(self.reason(*rules[:30], start="ra"))
        self.assertIsNone(self.reason(rules[0], start="ra"))
        self.assertEqual(self.reason(*rules, start="ra"), "rules")
        self.assertEqual(self.reason(start="ra"), "rules")
        self.assertEqual(self.reason(*[("node", "", [])] * 31, start=""), "rules")

    def test_names(self):
        for name in ("", "A", "abcdefghijklm", "a b", "a1"):
            for rule in (("node", name, []), ("choice", name, []), ("operators", name, "", [])):
                self.assertEqual(self.rule_reason(rule), "name")
        self.is_right(("node", "abcdefghijkl", []))

    def test_parts(self):
        self.is_right(("node", "a", [("word", "x")] * 12))
        self.is_right(("node", "a", []))
        self.assertEqual(self.rule_reason(("node", "a", [("word", "x")] * 13)), "parts")
        self.assertEqual(self.rule_reason(("node", "a", [("word", "")] * 13)), "parts")

    def test_a_part(self):
        for part in (("word", ""), ("word", "x" * 13), ("token", "", "f"), ("token", "t", ""), ("child", "A", "f"),
                     ("child", "a", "f1"), ("maybe", "", "f"), ("maybe", "a", "abcdefghijklm"), ("many", "", "f"),
                     ("many", "a", ""), ("many", "a", "f", ""), ("many", "a", "f", "x" * 13), ("many", "", "f", "x"),
                     ("many", "a", "", "x")):
            self.assertEqual(self.rule_reason(("node", "a", [("word", "x"), part])), "part", part)
            self.assertEqual(self.rule_reason(("node", "a", [part, ("word", "x")])), "part", part)
        for part in (("word", "x" * 12), ("word", "\n"), ("token", "t", "abcdefghijkl"), ("child", "abcdefghijkl", "f"),
                     ("many", "a", "f", "x" * 12), ("many", "a", "f", None), ("many", "a", "f")):
            self.is_right(("node", "a", [part]))

    def test_alternatives(self):
        self.is_right(("choice", "a", ["b"] * 12))
        self.is_right(("choice", "a", ["abcdefghijkl"]))
        self.assertEqual(self.rule_reason(("choice", "a", [])), "alternatives")
        self.assertEqual(self.rule_reason(("choice", "a", ["b"] * 13)), "alternatives")
        self.assertEqual(self.rule_reason(("choice", "a", [""] * 13)), "alternatives")
        self.assertEqual(self.rule_reason(("choice", "a", ["b", ""])), "alternative")
        self.assertEqual(self.rule_reason(("choice", "a", ["abcdefghijklm"])), "alternative")

    def operators(self, levels, base="b", **more):
        return ("operators", "a", base, levels) + tuple(more.values())

    def test_operators(self):
        level = ("left", [("+", "p")])
        for way in ("left", "right", "none", "prefix", "postfix"):
            self.is_right(self.operators([(way, [("+", "p")] * 6)] * 8))
        self.is_right(self.operators([("left", [("x" * 12, "abcdefghijkl")])], brackets=("(", "x" * 12)))
        self.is_right(self.operators([level], brackets=None))
        for base in ("", "B", "abcdefghijklm"):
            self.assertEqual(self.rule_reason(self.operators([], base)), "base")
        self.assertEqual(self.rule_reason(self.operators([])), "levels")
        self.assertEqual(self.rule_reason(self.operators([level] * 9)), "levels")
        self.assertEqual(self.rule_reason(self.operators([("up", [])] * 9)), "levels")
        for wrong in (("up", [("+", "p")]), ("", [("+", "p")]), ("left", []), ("left", [("+", "p")] * 7),
                      ("left", [("", "p")]), ("left", [("x" * 13, "p")]), ("left", [("+", "")]),
                      ("left", [("+", "p"), ("-", "P")])):
            self.assertEqual(self.rule_reason(self.operators([level, wrong])), "level", wrong)
            self.assertEqual(self.rule_reason(self.operators([wrong, level], brackets=("", ""))), "level", wrong)
        for pair in (("", ")"), ("(", ""), ("x" * 13, ")"), ("(", "x" * 13)):
            self.assertEqual(self.rule_reason(self.operators([level], brackets=pair)), "brackets")

    def test_start(self):
        for start in ("", "File", "abcdefghijklm"):
            self.assertEqual(self.reason(NODE, start=start), "start")
        self.assertIsNone(self.reason(NODE, start="unknown"))
        self.assertEqual(self.reason(NODE, start="", tokens=[]), "start")

    def test_the_errors_of_the_lexer(self):
        self.assertEqual(self.reason(NODE, tokens=[]), (BadLexer, None, "rules"))
        self.assertEqual(self.reason(NODE, tokens=[("a", "a")] * 21), (BadLexer, None, "rules"))
        self.assertEqual(self.reason(NODE, tokens=[("a", "a"), ("B", "b")]), (BadLexer, 1, "name"))
        self.assertEqual(self.reason(NODE, tokens=[("a", "a*")]), (BadLexer, 0, "empty"))
        self.assertEqual(self.reason(NODE, tokens=[("a", "a", "other")]), (BadLexer, 0, "mode"))
        self.assertEqual(self.reason(NODE, tokens=[("a", "a"), ("a", "b")]), (BadLexer, 1, "double"))
        self.assertEqual(self.reason(NODE, modes=["a", "a"], tokens=[]), (BadLexer, None, "modes"))
        many = [("node", letter, [("word", letter + str(number)) for number in range(12)]) for letter in "abcdef"]
        self.assertEqual(self.reason(*many, start="a"), (BadLexer, None, "words"))
        self.assertIsNone(self.reason(*many[:5], start="a"))

    def test_the_first_of_several_errors(self):
        self.assertEqual(self.reason(("node", "a", [("word", "")]), ("node", "", []), start="", tokens=[]),
                         (BadRule, 0, "part"))
        self.assertEqual(self.reason(NODE, ("choice", "a", []), start="", tokens=[]), (BadRule, 1, "alternatives"))
        self.assertEqual(self.reason(("operators", "a", "", [], ("", ""))), (BadRule, 0, "base"))


if __name__ == "__main__":
    unittest.main()
