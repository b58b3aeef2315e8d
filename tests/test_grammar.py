"""The faults of a language ([C7], [C8])."""

import copy
import unittest

from tongues.grammar import faults
from tongues.languages import Language
from tests.languages import CALCULUS, LETS, OPTIONS, example, language_of

END = ("end",)


def word(text):
    return ("word", text)


def node(name, *parts):
    return ("node", name, list(parts))


B, C, D = (node(letter, word(letter)) for letter in "bcd")
PLUS = ("left", [("+", "plus")])


class FaultsCase(unittest.TestCase):
    def told(self, *rules, start="a"):
        found = faults(language_of(list(rules), start))
        self.assertIsInstance(found, list)
        for fault in found:
            self.assertIsInstance(fault, tuple)
            self.assertIsInstance(fault[3], tuple)
        return found

    def clashes(self, *rules, start="a"):
        """The clashes of rules that have no other faults; rules that are not reached aside."""
        found = self.told(*rules, start=start)
        self.assertTrue(all(fault[0] in ("clash", "not reached") for fault in found), found)
        return [(name, place, [kind[-1] for kind in kinds]) for sort, name, place, kinds in found if sort == "clash"]


class FaultsTest(FaultsCase):
    def test_languages_without_faults(self):
        for sections in (LETS, CALCULUS, OPTIONS):
            self.assertEqual(faults(example(sections)), [])
        self.assertEqual(self.told(node("a")), [])
        self.assertEqual(self.told(("choice", "a", ["b", "c"]), B, C), [])

    def test_example_of_the_document(self):
        sections = copy.deepcopy(LETS)
        sections["rules"][5] = ("choice", "atom", ["name", "number", "name"])
        self.assertEqual(faults(Language(sections)), [("clash", "atom", 2, (("rule", "word"),))])

    def test_the_list_may_be_changed(self):
        language = language_of([node("a", ("child", "x", "f"))], "a")
        faults(language).clear()
        self.assertEqual(len(faults(language)), 1)
        accepted = example(LETS)
        faults(accepted).append("x")
        self.assertEqual(faults(accepted), [])


class FaultsOfNamesTest(FaultsCase):
    def test_rules_twice(self):
        twice = ("rule twice", "a", 0, ())
        self.assertEqual(self.told(node("a"), B, node("a")), [twice])
        self.assertEqual(self.told(node("a"), node("a"), node("a")), [twice, twice])
        self.assertEqual(self.told(node("a"), ("choice", "a", ["a"])), [twice])

    def test_nodes_of_operators_twice(self):
        self.assertEqual(self.told(("operators", "a", "b", [("left", [("+", "b")])]), B), [("rule twice", "b", 0, ())])
        self.assertEqual(self.told(("operators", "a", "b", [("left", [("+", "a"), ("-", "p")]), ("right", [("^", "p")])]), B),
                         [("rule twice", "a", 0, ()), ("rule twice", "p", 0, ())])
        self.assertEqual(self.told(("operators", "a", "c", [PLUS]), ("operators", "c", "b", [("none", [("-", "plus")])]), B),
                         [("rule twice", "plus", 0, ())])
        # all rules stand ahead of all nodes of operators
        self.assertEqual(self.told(("operators", "a", "b", [("left", [("+", "c")])]), B, B, C),
                         [("rule twice", "b", 0, ()), ("rule twice", "c", 0, ())])

    def test_fields_twice(self):
        parts = [("child", "b", "f"), word("x"), ("token", "word", "f"), ("many", "b", "g", ","), ("maybe", "b", "f"),
                 ("child", "b", "g")]
        self.assertEqual(self.told(node("a", *parts), B), [
            ("field twice", "a", 0, ("f",)), ("field twice", "a", 0, ("f",)), ("field twice", "a", 0, ("g",))])
        self.assertEqual(self.told(node("a", ("child", "b", "f"), word("f")), node("b", ("token", "word", "f"), word("f"))), [])

    def test_unknown_names(self):
        self.assertEqual(self.told(node("a", word("x"), ("token", "b", "f"), ("child", "word", "g"), ("maybe", "y", "h"),
                                        ("many", "z", "i", ","), ("token", "blank", "j")), B), [
            ("unknown token", "a", 1, ("b",)), ("unknown rule", "a", 2, ("word",)), ("unknown rule", "a", 3, ("y",)),
            ("unknown rule", "a", 4, ("z",))])
        self.assertEqual(self.told(("choice", "a", ["x", "b", "word"]), B),
                         [("unknown rule", "a", 0, ("x",)), ("unknown rule", "a", 2, ("word",))])
        self.assertEqual(self.told(("operators", "a", "plus", [PLUS])), [("unknown rule", "a", 0, ("plus",))])
        self.assertEqual(self.told(node("a", ("child", "plus", "f")), ("operators", "c", "b", [PLUS]), B),
                         [("unknown rule", "a", 0, ("plus",))])

    def test_unknown_start(self):
        self.assertEqual(self.told(node("a"), start="x"), [("unknown rule", "start", 0, ("x",))])
        self.assertEqual(self.told(("operators", "a", "b", [PLUS]), B, start="plus"), [("unknown rule", "start", 0, ("plus",))])

    def test_their_order(self):
        rules = [("choice", "c", ["y", "z"]), node("a", ("token", "x", "f"), ("child", "b", "f")),
                 ("operators", "o", "z", [("left", [("+", "a")])]), node("a", ("child", "c", "g"), ("maybe", "z", "g"))]
        self.assertEqual(self.told(*rules, start="q"), [
            ("rule twice", "a", 0, ()), ("rule twice", "a", 0, ()),
            ("field twice", "a", 0, ("f",)), ("field twice", "a", 0, ("g",)),
            ("unknown rule", "c", 0, ("y",)), ("unknown rule", "c", 1, ("z",)), ("unknown token", "a", 0, ("x",)),
            ("unknown rule", "a", 1, ("b",)), ("unknown rule", "o", 0, ("z",)), ("unknown rule", "a", 1, ("z",)),
            ("unknown rule", "start", 0, ("q",))])

    def test_they_stand_alone(self):
        rules = [node("a", ("child", "a", "f"), ("maybe", "e", "g"), ("maybe", "e", "g")), node("e"), B]
        self.assertEqual(self.told(*rules), [("field twice", "a", 0, ("g",))])


class FaultsOfRulesTest(FaultsCase):
    def test_no_finite_tree(self):
        self.assertEqual(self.told(node("a", ("maybe", "e", "f")), node("e", word("x"), ("child", "e", "f"))),
                         [("no finite tree", "e", 0, ())])
        self.assertEqual(self.told(node("a", word("x"), ("child", "e", "f")), ("choice", "e", ["a", "g"]),
                                   ("operators", "g", "a", [PLUS], ("(", ")"))),
                         [("no finite tree", "a", 0, ()), ("no finite tree", "e", 0, ()), ("no finite tree", "g", 0, ()),
                          ("clash", "e", 1, (word("x"),)), ("clash", "g", 0, (word("+"),))])
        self.assertEqual(self.told(("choice", "a", ["e", "b"]), node("e", word("x"), ("child", "a", "f")), B), [])
        self.assertEqual(self.told(node("a", word("x"), ("many", "a", "f"), word("y"))), [])

    def test_not_reached(self):
        self.assertEqual(self.told(B, node("a", ("maybe", "c", "f")), C, D, node("e", ("child", "d", "f"))),
                         [("not reached", "b", 0, ()), ("not reached", "d", 0, ()), ("not reached", "e", 0, ())])
        self.assertEqual(self.told(("choice", "a", ["e"]), ("operators", "e", "g", [PLUS]), node("g", ("many", "b", "f"), word("x")), B), [])
        self.assertEqual(self.told(B, start="b"), [])

    def test_begins_with_itself(self):
        self.assertEqual(self.told(node("a", ("child", "a", "f"), word("x")))[1:], [("begins with itself", "a", 0, ())])
        self.assertEqual(self.told(("choice", "a", ["e", "b"]), node("e", ("child", "a", "f"), word("x")), B)[:2],
                         [("begins with itself", "a", 0, ()), ("begins with itself", "e", 0, ())])
        self.assertEqual(self.told(("operators", "a", "e", [PLUS], ("(", ")")), ("choice", "e", ["b", "g"]), B,
                                   node("g", ("child", "a", "f"), word("x")))[:3],
                         [("begins with itself", name, 0, ()) for name in "aeg"])
        for part in (("maybe", "b", "g"), ("many", "b", "g", ",")):
            self.assertEqual(self.told(node("a", part, ("maybe", "a", "f"), word("x")), B)[:1],
                             [("begins with itself", "a", 0, ())])
        self.assertEqual(self.told(node("a", ("child", "e", "g"), ("maybe", "a", "f"), word("x")), node("e"))[:1],
                         [("begins with itself", "a", 0, ())])
        for part in (word("y"), ("token", "number", "g"), ("child", "b", "g")):
            self.assertEqual([fault for fault in self.told(node("a", part, ("maybe", "a", "f"), word("x")), B)
                              if fault[0] == "begins with itself"], [])
        # behind a prefix operator and in brackets a rule does not stand at its beginning
        self.assertEqual(self.told(("operators", "a", "b", [("prefix", [("-", "m")])], ("(", ")")), B), [])

    def test_a_rule_that_leads_to_a_ring_is_in_none(self):
        self.assertEqual(self.told(node("a", ("child", "e", "f")), ("choice", "e", ["g", "b"]), B,
                                   node("g", ("child", "e", "f"), word("x")))[:2],
                         [("begins with itself", "e", 0, ()), ("begins with itself", "g", 0, ())])

    def test_can_be_empty(self):
        parts = [word("x"), ("child", "e", "f"), word("y"), ("maybe", "e", "g"), word("z"), ("many", "e", "h", ","), ("child", "b", "i")]
        self.assertEqual(self.told(node("a", *parts), node("e"), B), [
            ("can be empty", "a", 1, ("e",)), ("can be empty", "a", 3, ("e",)), ("can be empty", "a", 5, ("e",))])
        self.assertEqual(self.told(("operators", "a", "e", [PLUS]), node("e", ("maybe", "b", "f")), B),
                         [("can be empty", "a", 0, ("e",))])
        # an alternative and start may be empty
        self.assertEqual(self.told(("choice", "a", ["b", "e"]), B, node("e", ("maybe", "c", "f")), C), [])
        self.assertEqual(self.told(node("a", ("child", "e", "f")), ("choice", "e", ["b", "g"]), B, node("g")),
                         [("can be empty", "a", 0, ("e",))])


class ClashesTest(FaultsCase):
    def test_at_a_maybe(self):
        self.assertEqual(self.clashes(node("a", ("maybe", "b", "f"), ("child", "b", "g")), B), [("a", 0, ["b"])])
        self.assertEqual(self.clashes(node("a", ("maybe", "e", "f"), ("maybe", "c", "g"), word("b")), ("choice", "e", ["c", "d", "b"]), B, C, D),
                         [("a", 0, ["b", "c"])])
        self.assertEqual(self.clashes(node("a", ("maybe", "b", "f"), word("x"), ("child", "b", "g")), B), [])

    def test_at_a_maybe_at_the_end_of_a_node(self):
        self.assertEqual(self.clashes(node("a", ("child", "e", "f"), ("child", "b", "g")), node("e", word("x"), ("maybe", "b", "f")), B),
                         [("e", 1, ["b"])])
        self.assertEqual(self.clashes(node("a", ("many", "e", "f")), node("e", word("x"), ("maybe", "e", "f"))), [("e", 1, ["x"])])

    def test_at_a_many_without_a_word(self):
        self.assertEqual(self.clashes(node("a", ("many", "b", "f"), ("child", "b", "g")), B), [("a", 0, ["b"])])
        self.assertEqual(self.clashes(node("a", ("many", "b", "f"), ("many", "b", "g")), B), [("a", 0, ["b"])])
        self.assertEqual(self.clashes(node("a", ("many", "b", "f"), ("many", "c", "g")), B, C), [])

    def test_at_a_many_with_a_word(self):
        self.assertEqual(self.clashes(node("a", ("many", "b", "f", ","), word(",")), B), [("a", 0, [","])])
        self.assertEqual(self.clashes(node("a", ("many", "b", "f", ","), ("maybe", "b", "g"), word(",")), B), [("a", 0, [",", "b"])])
        self.assertEqual(self.clashes(node("a", ("many", "e", "f", ",")), node("e", word("x"), ("many", "b", "g", ",")), B),
                         [("e", 1, [","])])
        # the rule of the many may itself begin with the word
        self.assertEqual(self.clashes(node("a", ("many", "b", "f", "b")), B), [])

    def test_at_an_alternative(self):
        rules = [("choice", "a", ["b", "e", "c", "b"]), B, ("choice", "e", ["c", "d"]), C, D]
        self.assertEqual(self.clashes(*rules), [("a", 2, ["c"]), ("a", 3, ["b"])])

    def test_at_an_alternative_that_can_be_empty(self):
        rules = [("choice", "a", ["g", "h"]), node("g", ("maybe", "b", "f")), node("h", ("maybe", "c", "f")), B, C]
        self.assertEqual(self.told(*rules), [("clash", "a", 1, (END,))])
        # the kinds behind the choice are among the first kinds of an earlier or a later alternative
        for names in (["g", "b"], ["b", "g"]):
            rules = [node("a", ("child", "e", "f"), word("b")), ("choice", "e", names), node("g", ("maybe", "c", "f")), B, C]
            self.assertEqual(self.told(*rules), [("can be empty", "a", 0, ("e",)), ("clash", "e", 1, (word("b"),))])

    def test_prefix_operators_and_open(self):
        levels = [("prefix", [("-", "m")]), ("prefix", [("~", "n"), ("-", "o")])]
        self.assertEqual(self.clashes(("operators", "a", "b", levels), B), [("a", 0, ["-"])])
        self.assertEqual(self.clashes(("operators", "a", "b", levels, ("~", ")")), B), [("a", 0, ["-", "~"])])
        self.assertEqual(self.clashes(("operators", "a", "b", [("prefix", [("b", "m")])]), B), [("a", 0, ["b"])])
        self.assertEqual(self.clashes(("operators", "a", "b", [PLUS], ("b", ")")), B), [("a", 0, ["b"])])
        # a prefix operator may be another operator, too
        self.assertEqual(self.clashes(("operators", "a", "b", [("left", [("-", "p")]), ("prefix", [("-", "m")])], ("(", ")")), B), [])

    def test_operators_that_are_not_prefix(self):
        levels = [("left", [("+", "p"), ("-", "q"), ("+", "r")]), ("postfix", [("!", "o"), ("-", "s")])]
        self.assertEqual(self.clashes(("operators", "a", "b", levels), B), [("a", 0, ["+", "-"])])
        self.assertEqual(self.clashes(node("a", ("child", "e", "f"), ("maybe", "c", "g"), word("+")), ("operators", "e", "b", [PLUS, ("none", [("c", "k")])]), B, C),
                         [("e", 0, ["+", "c"])])
        self.assertEqual(self.clashes(("operators", "a", "b", [PLUS], ("(", "+")), B), [("a", 0, ["+"])])
        self.assertEqual(self.clashes(("operators", "a", "b", [PLUS, ("left", [("b", "q")])], ("(", ")")), B), [])

    def test_all_clashes_of_an_operators_rule_are_one_fault(self):
        levels = [("prefix", [("-", "m"), ("b", "n")]), ("right", [("^", "p")]), ("none", [("^", "q"), (")", "r")]),
                  ("prefix", [("-", "o")])]
        self.assertEqual(self.clashes(("operators", "a", "b", levels, ("-", ")")), B), [("a", 0, ["-", "b", "^", ")"])])

    def test_the_order_of_all_faults(self):
        rules = [node("h", ("maybe", "z", "f"), word("z")), node("z", ("child", "z", "f"), word("z")),
                 node("a", ("maybe", "y", "f"), ("child", "e", "g"), ("maybe", "y", "h")),
                 node("e"), node("y", ("many", "e", "f"), ("child", "y", "g"), word("q")), ("choice", "c", ["b", "b"]), B]
        self.assertEqual(self.told(*rules), [
            ("no finite tree", "z", 0, ()), ("no finite tree", "y", 0, ()),
            ("not reached", "h", 0, ()), ("not reached", "z", 0, ()), ("not reached", "c", 0, ()), ("not reached", "b", 0, ()),
            ("begins with itself", "z", 0, ()), ("begins with itself", "y", 0, ()),
            ("can be empty", "a", 1, ("e",)), ("can be empty", "y", 0, ("e",)),
            ("clash", "c", 1, (word("b"),))])


if __name__ == "__main__":
    unittest.main()
