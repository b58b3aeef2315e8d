"""Texts and changes (part A)."""

import random
import unittest

from tongues.errors import BadChange
from tongues.texts import (apply_change, carry_place, check_change, invert_change, join_changes,
                           line_and_column)


def random_change(rng, size):
    """A change that is right: pieces with at least one character between them."""
    pieces = []
    at = 0
    while at <= size and rng.random() < 0.8:
        start = rng.randint(at, size)
        stop = rng.randint(start, min(size, start + 3))
        put = "".join(rng.choice("ab\n") for _ in range(rng.randint(0, 3)))
        if start < stop or put:
            pieces.append((start, stop, put))
            at = stop + 1
    return tuple(pieces)


def kept(size, change):
    """The positions of the characters that are in no piece."""
    return [place for place in range(size) if not any(start <= place < stop for start, stop, _ in change)]


class CheckChangeTest(unittest.TestCase):
    def wrong(self, text, change):
        for given in (tuple(change), list(change), [list(piece) for piece in change]):
            with self.assertRaises(BadChange) as caught:
                check_change(text, given)
            told = (caught.exception.number, caught.exception.reason)
        return told

    def test_right_changes(self):
        for change in ((), [], ((0, 0, "x"),), [(3, 3, "x")], ((0, 3, ""),), ((0, 1, ""), (2, 3, "")),
                       ((0, 0, "x"), (1, 1, "y"), (2, 2, "z"), (3, 3, "w")), [[0, 0, "x"], [2, 3, ""]]):
            self.assertIsNone(check_change("abc", change))
        self.assertIsNone(check_change("", ()))
        self.assertIsNone(check_change("", [(0, 0, "x")]))

    def test_a_piece_may_put_what_it_replaces(self):
        self.assertIsNone(check_change("abc", ((0, 3, "abc"),)))
        self.assertIsNone(check_change("abc", [(1, 2, "b")]))

    def test_range(self):
        for piece in ((-1, 1, "x"), (2, 1, "x"), (0, 4, "x"), (4, 4, "x"), (-2, -1, "x"), (4, 5, "")):
            self.assertEqual(self.wrong("abc", (piece,)), (0, "range"))
        self.assertEqual(self.wrong("", ((0, 1, ""),)), (0, "range"))
        self.assertEqual(self.wrong("abc", ((0, 1, "x"), (2, 4, "x"))), (1, "range"))

    def test_order(self):
        for second in ((2, 3, "y"), (1, 3, "y"), (0, 0, "y"), (2, 2, "y")):
            self.assertEqual(self.wrong("abcdef", ((1, 2, "x"), second)), (1, "order"))
        self.assertEqual(self.wrong("abc", ((1, 1, "x"), (1, 1, "y"))), (1, "order"))
        self.assertEqual(self.wrong("abc", ((1, 1, "x"), (1, 2, ""))), (1, "order"))
        self.assertEqual(self.wrong("abcdef", ((0, 0, "x"), (2, 3, "x"), (3, 4, ""))), (2, "order"))

    def test_nothing(self):
        self.assertEqual(self.wrong("abc", ((1, 1, ""),)), (0, "nothing"))
        self.assertEqual(self.wrong("", ((0, 0, ""),)), (0, "nothing"))
        self.assertEqual(self.wrong("abc", ((0, 1, ""), (3, 3, ""))), (1, "nothing"))

    def test_the_first_reason_of_a_piece(self):
        self.assertEqual(self.wrong("abc", ((1, 2, "x"), (9, 9, ""))), (1, "range"))
        self.assertEqual(self.wrong("abc", ((1, 2, "x"), (-1, -1, ""))), (1, "range"))
        self.assertEqual(self.wrong("abc", ((1, 2, "x"), (2, 2, ""))), (1, "order"))
        self.assertEqual(self.wrong("abc", ((1, 2, "x"), (0, 9, "y"))), (1, "range"))

    def test_the_first_wrong_piece(self):
        self.assertEqual(self.wrong("abc", ((1, 1, ""), (0, 9, "x"))), (0, "nothing"))
        self.assertEqual(self.wrong("abcd", ((0, 0, "x"), (0, 1, "x"), (4, 9, ""))), (1, "order"))


class ApplyChangeTest(unittest.TestCase):
    def test_examples(self):
        self.assertEqual(apply_change("let x = 1;", ((4, 5, "y"), (8, 9, "22"))), "let y = 22;")

    def test_edges(self):
        for text, change, after in (
                ("", (), ""), ("", ((0, 0, "ab"),), "ab"), ("abc", (), "abc"), ("abc", ((0, 3, ""),), ""),
                ("abc", ((0, 0, "x"), (3, 3, "y")), "xabcy"), ("abc", ((0, 1, ""), (2, 3, "zz")), "bzz"),
                ("abc", ((0, 3, "abc"),), "abc"), ("abc", ((0, 0, "xy"), (1, 1, "z"), (2, 3, "")), "xyazb")):
            self.assertEqual(apply_change(text, change), after)
            self.assertEqual(apply_change(text, list(change)), after)

    def test_arguments_are_not_changed(self):
        change = [[0, 1, "x"], [2, 2, "y"]]
        apply_change("abc", change)
        invert_change("abc", change)
        join_changes("abc", change, change)
        carry_place(3, change, 2)
        self.assertEqual(change, [[0, 1, "x"], [2, 2, "y"]])


class InvertChangeTest(unittest.TestCase):
    def test_examples(self):
        self.assertEqual(invert_change("abc", ((0, 0, "xx"), (1, 2, "y"))), ((0, 2, ""), (3, 4, "b")))

    def test_edges(self):
        self.assertEqual(invert_change("abc", ()), ())
        self.assertEqual(invert_change("abc", [[0, 1, ""], [3, 3, "xy"]]), ((0, 0, "a"), (2, 4, "")))
        self.assertEqual(invert_change("abc", ((0, 3, ""),)), ((0, 0, "abc"),))
        self.assertEqual(invert_change("abc", ((1, 2, "b"),)), ((1, 2, "b"),))

    def test_leads_back_and_is_its_own_inverse(self):
        rng = random.Random(1)
        for _ in range(500):
            text = "".join(rng.choice("abc") for _ in range(rng.randint(0, 8)))
            change = random_change(rng, len(text))
            after = apply_change(text, change)
            inverse = invert_change(text, change)
            self.assertIsNone(check_change(after, inverse))
            self.assertEqual(apply_change(after, inverse), text)
            self.assertEqual(invert_change(after, inverse), change)


class JoinChangesTest(unittest.TestCase):
    def test_examples(self):
        self.assertEqual(join_changes("abc", ((1, 2, ""),), ((1, 1, "d"),)), ((1, 2, "d"),))
        self.assertEqual(join_changes("abc", ((1, 1, "x"),), ((1, 2, ""),)), ())
        self.assertEqual(join_changes("abc", ((1, 1, "x"),), ((2, 3, "y"),)), ((1, 2, "xy"),))

    def test_edges(self):
        self.assertEqual(join_changes("", (), ()), ())
        self.assertEqual(join_changes("", ((0, 0, "ab"),), ((0, 1, ""),)), ((0, 0, "b"),))
        self.assertEqual(join_changes("", ((0, 0, "ab"),), ((0, 2, ""),)), ())
        self.assertEqual(join_changes("abc", ((0, 0, "x"),), ((4, 4, "y"),)), ((0, 0, "x"), (3, 3, "y")))
        self.assertEqual(join_changes("abc", [[0, 1, ""]], [[1, 2, ""]]), ((0, 1, ""), (2, 3, "")))
        self.assertEqual(join_changes("abc", ((0, 1, ""),), ((0, 1, "z"),)), ((0, 2, "z"),))

    def test_where_nothing_is_kept(self):
        self.assertEqual(join_changes("abc", ((0, 2, "x"),), ((1, 2, "y"),)), ((0, 3, "xy"),))
        self.assertEqual(join_changes("abc", ((0, 3, ""),), ()), ((0, 3, ""),))
        self.assertEqual(join_changes("abc", ((0, 3, "abc"),), ()), ((0, 3, "abc"),))

    def test_with_the_inverse(self):
        self.assertEqual(join_changes("abc", ((1, 1, "x"),), ((1, 2, ""),)), ())
        self.assertEqual(join_changes("abc", ((1, 2, "x"),), ((1, 2, "b"),)), ((1, 2, "b"),))

    def test_by_its_definition(self):
        rng = random.Random(2)
        for _ in range(500):
            text = "".join(rng.choice("abc") for _ in range(rng.randint(0, 8)))
            first = random_change(rng, len(text))
            between = apply_change(text, first)
            second = random_change(rng, len(between))
            joined = join_changes(text, first, second)
            self.assertIsNone(check_change(text, joined))
            self.assertEqual(apply_change(text, joined), apply_change(between, second))
            both = [place for place in kept(len(text), first)
                    if carry_place(len(between), second, carry_place(len(text), first, place)) is not None]
            self.assertEqual(kept(len(text), joined), both)
            for place in both:
                step = carry_place(len(text), first, place)
                self.assertEqual(carry_place(len(text), joined, place), carry_place(len(between), second, step))

    def test_with_an_empty_change_and_from_either_side(self):
        rng = random.Random(3)
        for _ in range(500):
            text = "".join(rng.choice("abc") for _ in range(rng.randint(0, 8)))
            first = random_change(rng, len(text))
            between = apply_change(text, first)
            second = random_change(rng, len(between))
            later = apply_change(between, second)
            third = random_change(rng, len(later))
            self.assertEqual(join_changes(text, first, ()), first)
            self.assertEqual(join_changes(text, (), first), first)
            left = join_changes(text, join_changes(text, first, second), third)
            right = join_changes(text, first, join_changes(between, second, third))
            self.assertEqual(left, right)


class PlacesTest(unittest.TestCase):
    def test_example(self):
        self.assertEqual(carry_place(10, ((4, 5, "y"), (8, 9, "22")), 9), 10)

    def test_carried_places(self):
        change = [[0, 0, "xx"], [1, 2, ""], [4, 6, "abc"]]
        self.assertEqual([carry_place(7, change, place) for place in range(8)], [2, None, 3, 4, None, None, 8, 9])
        self.assertEqual([carry_place(2, (), place) for place in range(3)], [0, 1, 2])

    def test_the_place_behind_the_last_character(self):
        self.assertEqual(carry_place(3, ((3, 3, "xy"),), 3), 5)
        self.assertEqual(carry_place(3, ((2, 3, ""),), 3), 2)
        self.assertEqual(carry_place(3, ((0, 3, "abc"),), 3), 3)
        self.assertEqual(carry_place(0, (), 0), 0)
        self.assertEqual(carry_place(0, ((0, 0, "ab"),), 0), 2)

    def test_a_place_is_lost_though_the_piece_puts_the_same(self):
        self.assertIsNone(carry_place(3, ((1, 2, "b"),), 1))

    def test_lines_and_columns(self):
        self.assertEqual(line_and_column("a\nbc", 3), (2, 2))
        self.assertEqual(line_and_column("", 0), (1, 1))
        self.assertEqual(line_and_column("ab", 2), (1, 3))
        self.assertEqual([line_and_column("a\n\nb\n", place) for place in range(6)],
                         [(1, 1), (1, 2), (2, 1), (3, 1), (3, 2), (4, 1)])
        self.assertEqual([line_and_column("\n", place) for place in range(2)], [(1, 1), (2, 1)])


if __name__ == "__main__":
    unittest.main()
