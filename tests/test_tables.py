"""Tables of a language ([C4] to [C6])."""

import random
import unittest

from tongues.grammar import faults
from tongues.tables import Tables
from tests.derivations import Deriver
from tests.languages import CALCULUS, LETS, OPTIONS, example, language_of

END = ("end",)
WORD = ("rule", "word")
NUMBER = ("rule", "number")


def words(text):
    return [("word", word) for word in text.split()]


class TablesTest(unittest.TestCase):
    def row(self, rules, name, start="a"):
        """The row of a rule; with b, c, .. as nodes of a word each where they are not given."""
        rules = list(rules)
        given = [rule[1] for rule in rules]
        for letter in "bcd":
            if letter not in given:
                rules.append(("node", letter, [("word", letter)]))
        rows = {row[0]: row[1:] for row in Tables(language_of(rules, start)).rows()}
        self.assertEqual([row[0] for row in Tables(language_of(rules, start)).rows()], [rule[1] for rule in rules])
        empty, firsts, behind = rows[name]
        self.assertIsInstance(firsts, tuple)
        self.assertIsInstance(behind, tuple)
        return (empty, list(firsts), list(behind))

    def test_example_of_the_document(self):
        rows = Tables(example(LETS)).rows()
        self.assertIsInstance(rows, tuple)
        self.assertEqual(rows[4], ("sum", False, (("word", "-"), ("word", "("), WORD, NUMBER), (("word", ";"), ("word", ")"))))
        self.assertEqual([row[0] for row in rows], ["file", "item", "let", "show", "sum", "atom", "name", "number"])

    def test_nodes(self):
        self.assertEqual(self.row([("node", "a", [])], "a"), (True, [], [END]))
        self.assertEqual(self.row([("node", "a", [("word", "x"), ("child", "b", "f")])], "a"), (False, words("x"), [END]))
        self.assertEqual(self.row([("node", "a", [("token", "number", "f"), ("word", "x")])], "a"), (False, [NUMBER], [END]))
        self.assertEqual(self.row([("node", "a", [("maybe", "b", "f")])], "a"), (True, words("b"), [END]))
        self.assertEqual(self.row([("node", "a", [("many", "b", "f")])], "a"), (True, words("b"), [END]))
        self.assertEqual(self.row([("node", "a", [("many", "b", "f", ",")])], "a"), (True, words("b"), [END]))
        self.assertEqual(self.row([("node", "a", [("child", "b", "f")])], "a"), (False, words("b"), [END]))
        self.assertEqual(self.row([("node", "a", [("child", "b", "f")]), ("node", "b", [])], "a"), (True, [], [END]))

    def test_parts_that_can_be_empty(self):
        parts = [("maybe", "b", "f"), ("many", "c", "g", ","), ("child", "d", "h")]
        self.assertEqual(self.row([("node", "a", parts)], "a"), (False, words("b c d"), [END]))
        self.assertEqual(self.row([("node", "a", parts + [("word", "x")])], "a"), (False, words("b c d"), [END]))
        self.assertEqual(self.row([("node", "a", parts), ("node", "d", [])], "a"), (True, words("b c"), [END]))
        self.assertEqual(self.row([("node", "a", parts + [("word", "x")]), ("node", "d", [("many", "b", "f")])], "a"),
                         (False, words("x b c"), [END]))

    def test_choices(self):
        self.assertEqual(self.row([("choice", "a", ["c", "b"])], "a"), (False, words("b c"), [END]))
        self.assertEqual(self.row([("choice", "a", ["c", "b"]), ("node", "b", [])], "a"), (True, words("c"), [END]))
        self.assertEqual(self.row([("choice", "a", ["c", "b"])], "b"), (False, words("b"), [END]))

    def operators(self, way, brackets=None, base="b"):
        return ("operators", "a", base, [(way, [("+", "p"), ("-", "q")])], brackets)

    def test_each_way_of_operators(self):
        for way in ("left", "right", "none", "postfix"):
            self.assertEqual(self.row([self.operators(way)], "a"), (False, words("b"), [END]))
            self.assertEqual(self.row([self.operators(way)], "b"), (False, words("b"), [END] + words("+ -")))
        self.assertEqual(self.row([self.operators("prefix")], "a"), (False, words("+ - b"), [END]))
        self.assertEqual(self.row([self.operators("prefix")], "b"), (False, words("b"), [END]))

    def test_brackets(self):
        for way in ("left", "right", "none", "postfix"):
            rules = [self.operators(way, ("(", ")"))]
            self.assertEqual(self.row(rules, "a"), (False, words("( b"), [END] + words(")")))
            self.assertEqual(self.row(rules, "b"), (False, words("b"), [END] + words("+ - )")))
        self.assertEqual(self.row([self.operators("prefix", ("(", ")"))], "a"), (False, words("+ - ( b"), [END] + words(")")))

    def test_operators_whose_base_can_be_empty(self):
        rules = [self.operators("prefix"), ("node", "b", [("maybe", "c", "f")])]
        self.assertEqual(self.row(rules, "a"), (True, words("+ - c"), [END]))
        rules = [self.operators("left"), ("node", "b", [("maybe", "c", "f")])]
        self.assertEqual(self.row(rules, "a"), (True, words("c"), [END]))

    def test_levels(self):
        levels = [("prefix", [("not", "n")]), ("left", [("+", "p")]), ("prefix", [("-", "m")]), ("postfix", [("!", "o")])]
        rules = [("operators", "a", "b", levels)]
        self.assertEqual(self.row(rules, "a"), (False, words("not - b"), [END]))
        self.assertEqual(self.row(rules, "b"), (False, words("b"), [END] + words("+ !")))

    def test_kinds_behind_parts(self):
        for sort in ("child", "maybe"):
            behind = [("node", "a", [(sort, "b", "f"), ("maybe", "c", "g"), ("many", "d", "h")])]
            self.assertEqual(self.row(behind, "b")[2], [END] + words("c d"))
        rules = [("node", "a", [("child", "b", "f"), ("maybe", "c", "g"), ("word", "x"), ("child", "d", "h")])]
        self.assertEqual(self.row(rules, "b")[2], words("x c"))
        self.assertEqual(self.row(rules, "c")[2], words("x"))
        self.assertEqual(self.row(rules, "d")[2], [END])

    def test_kinds_behind_a_many(self):
        self.assertEqual(self.row([("node", "a", [("many", "b", "f")])], "b")[2], [END] + words("b"))
        self.assertEqual(self.row([("node", "a", [("many", "b", "f", ",")])], "b")[2], [END] + words(","))
        self.assertEqual(self.row([("node", "a", [("many", "b", "f", ","), ("word", "x")])], "b")[2], words(", x"))

    def test_kinds_behind_from_several_places(self):
        rules = [("node", "a", [("child", "e", "f"), ("word", "x"), ("child", "e", "g"), ("token", "word", "h")]),
                 ("choice", "e", ["b", "c"])]
        for name in ("e", "b", "c"):
            self.assertEqual(self.row(rules, name)[2], words("x") + [WORD])

    def test_rules_that_are_not_reached(self):
        rules = [("node", "a", []), ("node", "e", [("child", "b", "f"), ("word", "x")]), ("choice", "b", ["c"])]
        self.assertEqual(self.row(rules, "e"), (False, words("c"), []))
        self.assertEqual(self.row(rules, "b"), (False, words("c"), words("x")))
        self.assertEqual(self.row(rules, "c"), (False, words("c"), words("x")))
        self.assertEqual(self.row(rules, "d"), (False, words("d"), []))

    def test_rings(self):
        rules = [("choice", "a", ["e", "b"]), ("node", "e", [("child", "a", "f"), ("word", "x")])]
        self.assertEqual(self.row(rules, "a"), (False, words("b"), [END] + words("x")))
        self.assertEqual(self.row(rules, "e"), (False, words("b"), [END] + words("x")))
        self.assertEqual(self.row([("choice", "a", ["e"]), ("choice", "e", ["a"])], "a"), (False, [], [END]))
        self.assertEqual(self.row([("node", "a", [("child", "a", "f")])], "a"), (False, [], [END]))
        self.assertEqual(self.row([("node", "a", [("maybe", "a", "f"), ("word", "x")])], "a"), (False, words("x"), [END] + words("x")))

    def test_rules_in_any_order(self):
        language = example(CALCULUS)
        expected = {row[0]: row for row in Tables(language).rows()}
        rng = random.Random(9)
        for _ in range(20):
            rules = list(CALCULUS["rules"])
            rng.shuffle(rules)
            rows = Tables(language_of(rules, "file")).rows()
            self.assertEqual([row[0] for row in rows], [rule[1] for rule in rules])
            for name, empty, firsts, behind in rows:
                _, other_empty, other_firsts, other_behind = expected[name]
                self.assertEqual((empty, set(firsts), set(behind)), (other_empty, set(other_firsts), set(other_behind)))

    def test_the_order_of_kinds(self):
        language = example(CALCULUS)
        order = [END] + [("word", word) for word in language.words] + [("rule", one[0]) for one in language.tokens]
        for _, _, firsts, behind in Tables(language).rows():
            for kinds in (firsts, behind):
                self.assertEqual(list(kinds), sorted(set(kinds), key=order.index))

    def test_against_random_sentences(self):
        for sections in (LETS, CALCULUS, OPTIONS):
            language = example(sections)
            self.assertEqual(faults(language), [])
            deriver = Deriver(language, random.Random(10))
            firsts = {rule[1]: set() for rule in language.rules}
            behind = {rule[1]: set() for rule in language.rules}
            empty = {rule[1]: False for rule in language.rules}
            for _ in range(3000):
                deriver.sentence()
                self.note(deriver.events, firsts, behind, empty)
            for name, is_empty, first_kinds, kinds_behind in Tables(language).rows():
                self.assertEqual((name, is_empty), (name, empty[name]))
                self.assertEqual((name, set(first_kinds)), (name, firsts[name]))
                self.assertEqual((name, set(kinds_behind)), (name, behind[name]))

    def note(self, events, firsts, behind, empty):
        """Notes what is first in and what is behind each rule of a sentence."""
        following = END
        entered = []
        for what, one in reversed(events):
            if what == "kind":
                following = one
                entered = [(name, True) for name, _ in entered]
            elif what == "out":
                behind[one].add(following)
                entered.append((one, False))
            else:
                _, has_tokens = entered.pop()
                if has_tokens:
                    firsts[one].add(following)
                else:
                    empty[one] = True


if __name__ == "__main__":
    unittest.main()
