"""Automata and whole matches ([B3], [B13])."""

import itertools
import random
import re
import unittest

from tongues.automata import Automaton, matches
from tongues.patterns import ALPHABET, read_pattern
from tests.test_patterns import random_pattern


def automaton(*patterns):
    return Automaton([read_pattern(pattern) for pattern in patterns])


def state_behind(machine, text):
    state = None
    for character in text:
        state = machine.after(state, character)
    return state


def regular_expression(tree):
    """The pattern of a tree for Python's own matcher."""
    sort, inside = tree
    if sort == "chars":
        return "[" + "".join(re.escape(character) for character in inside) + "]"
    if sort == "row":
        return "".join("(?:" + regular_expression(part) + ")" for part in inside)
    if sort == "either":
        return "|".join("(?:" + regular_expression(part) + ")" for part in inside)
    return "(?:" + regular_expression(inside) + ")" + {"star": "*", "plus": "+", "maybe": "?"}[sort]


class MatchesTest(unittest.TestCase):
    def test_whole_matches_and_near_misses(self):
        for pattern, whole, others in (
                ("a", ["a"], ["", "aa", "b", "A"]), (".", ["a", "\n", "~", " "], ["", "ab"]),
                ("[a-c]", ["a", "b", "c"], ["", "d", "ab"]), ("[^a-c]", ["d", "\n"], ["a", "c", "", "dd"]),
                ("\\n", ["\n"], ["n", "\\n", ""]), ("\\.", ["."], ["a", "\\."]), ("ab", ["ab"], ["a", "b", "ba", "abb"]),
                ("a|bc", ["a", "bc"], ["b", "ac", "abc", ""]), ("a*", ["", "a", "aaaa"], ["b", "aab"]),
                ("a+", ["a", "aaa"], ["", "ab"]), ("a?", ["", "a"], ["aa", "b"]), ("(ab)*", ["", "abab"], ["aba", "a"]),
                ("(a|b)+c", ["ac", "bbac"], ["c", "ab", "acc"]), ("a*b?a+", ["a", "aba", "aaa", "ba"], ["b", "ab", ""]),
                ("ab?c", ["ac", "abc"], ["c", "bc", "ab", "a", "abbc"]), ("ab*c?", ["a", "abbc", "ac"], ["c", "b", "bc"]),
                ("a?b?c", ["c", "abc", "bc"], ["", "a", "ab", "acb"]),
                ("a(b|c?)b", ["ab", "abb", "acb"], ["b", "cb", "acbb"]), ("(a?b?)+", ["", "a", "ba", "abab"], ["c"]), ("(a*)*b", ["b", "aab"], ["", "aa"])):
            tree = read_pattern(pattern)
            for text in whole:
                self.assertIs(matches(tree, text), True, (pattern, text))
            for text in others:
                self.assertIs(matches(tree, text), False, (pattern, text))

    def test_against_another_matcher(self):
        rng = random.Random(5)
        texts = ["".join(row) for size in range(4) for row in itertools.product("abc-", repeat=size)]
        for _ in range(300):
            tree = read_pattern(random_pattern(rng, 3))
            expression = re.compile(regular_expression(tree))
            for text in texts:
                self.assertEqual(matches(tree, text), expression.fullmatch(text) is not None, (tree, text))


class AutomatonTest(unittest.TestCase):
    def test_after_and_matching_for_one_item(self):
        machine = automaton("ab*")
        self.assertEqual(machine.matching(None), [])
        self.assertEqual(machine.after(None, "b"), ())
        self.assertEqual(machine.after((), "a"), ())
        self.assertEqual(machine.matching(()), [])
        for text in ("a", "ab", "abbb"):
            self.assertEqual(machine.matching(state_behind(machine, text)), [0])
        for text in ("b", "aa", "aba"):
            self.assertEqual(state_behind(machine, text), ())
        self.assertEqual(state_behind(machine, "ab"), state_behind(machine, "abb"))
        self.assertNotEqual(state_behind(machine, "a"), state_behind(machine, "ab"))

    def test_the_beginning_matches_nothing(self):
        self.assertEqual(automaton("a*").matching(None), [])

    def test_after_and_matching_for_several_items(self):
        machine = automaton("let", "[a-z]+", "le", "[0-9]")
        for text, items in (("l", [1]), ("le", [1, 2]), ("let", [0, 1]), ("lett", [1]), ("7", [3]), ("77", [])):
            self.assertEqual(machine.matching(state_behind(machine, text)), items)
        self.assertEqual(state_behind(machine, "77"), ())

    def test_states_are_ascending_tuples(self):
        for state in automaton("(a|b)*a(a|b)", "a*", "[^a]b").states(200):
            self.assertTrue(state is None or list(state) == sorted(set(state)) and state != ())

    def test_no_items(self):
        machine = Automaton([])
        self.assertEqual(machine.after(None, "a"), ())
        self.assertEqual(machine.states(1), {None: []})

    def test_states(self):
        machine = automaton("a[bc]*")
        first = machine.after(None, "a")
        second = machine.after(first, "b")
        self.assertEqual(machine.states(3), {None: [("a", first)], first: [("b", second), ("c", second)],
                                             second: [("b", second), ("c", second)]})

    def test_characters_are_in_the_order_of_the_alphabet(self):
        machine = automaton("z|.|[\n~]", "A")
        self.assertEqual([character for character, _ in machine.states(9)[None]], list(ALPHABET))

    def test_places_that_match_the_same_are_different_states(self):
        self.assertEqual(len(automaton("ab|cb").states(9)), 5)
        self.assertEqual(len(automaton("aaa").states(9)), 4)
        self.assertEqual(len(automaton("[ab]").states(9)), 2)
        self.assertEqual(len(automaton("a|a").states(9)), 2)
        self.assertEqual(len(automaton("a|b").states(9)), 3)
        self.assertEqual(len(automaton("a", "a").states(9)), 2)

    def test_states_at_below_and_above_the_number(self):
        machine = automaton("a" * 10)
        self.assertEqual(len(machine.states(11)), 11)
        self.assertEqual(len(machine.states(12)), 11)
        self.assertIsNone(machine.states(10))
        self.assertIsNone(machine.states(0))
        self.assertIsNone(automaton("(a|b)*a" + "(a|b)" * 10).states(200))
        self.assertIsNone(automaton("a").states(1))

    def test_states_are_all_sets_of_places(self):
        machine = automaton("(a|b)*a(a|b)(a|b)")
        texts = ["".join(row) for size in range(7) for row in itertools.product("ab", repeat=size)]
        self.assertEqual(set(machine.states(99)), {state_behind(machine, text) for text in texts})

    def test_what_is_returned_may_be_changed(self):
        machine = automaton("ab", "a")
        states = machine.states(9)
        states[None].clear()
        states.clear()
        state = machine.after(None, "a")
        machine.matching(state).clear()
        machine.matching(None).append(1)
        self.assertEqual(machine.matching(state), [1])
        self.assertEqual(machine.matching(None), [])
        self.assertEqual(machine.states(9)[None], [("a", state)])
        self.assertEqual(len(machine.states(9)), 3)

    def test_arguments_are_not_changed(self):
        trees = [read_pattern("ab"), read_pattern("c*")]
        Automaton(trees).states(9)
        self.assertEqual(trees, [read_pattern("ab"), read_pattern("c*")])


if __name__ == "__main__":
    unittest.main()
