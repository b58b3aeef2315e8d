"""Cells ([E1] to [E8])."""

import itertools
import random
import unittest

from tongues.cells import Cells, NoCell, TooManyCells
from tongues.errors import TongueError
from tongues.formulas import BadFormula, BadName, BadValue
from tests.raising import raised
from tests.slowcells import SlowCells, from_nothing

WORDS = ("plus", "least", "or", "if", "cyclic")
NAMES = [chr(ord("a") + number) for number in range(26)]


def cells_of(**rules):
    """Cells with these rules: an integer or None makes an input, anything else a formula."""
    cells = Cells()
    for name, rule in rules.items():
        give(cells, name, rule)
    return cells


def give(cells, name, rule):
    if rule is None or isinstance(rule, int):
        cells.put(name, rule)
    else:
        cells.define(name, rule)


def same(formula):
    """A formula with the value of this one, that is no name, integer or None."""
    return ("or", formula, None)


class RulesTest(unittest.TestCase):
    """[E1]"""

    def test_no_cells(self):
        cells = Cells()
        self.assertEqual(cells.cell_names, [])
        self.assertEqual(cells.work(), ([], [], []))
        self.assertEqual(cells.readers("a"), [])
        self.assertEqual(cells.trim(), 0)

    def test_names(self):
        cells = Cells()
        for name in ("a", "abcdefghijkl") + WORDS:
            cells.put(name, 1)
            cells.define(name, ("plus", 1, 1))
            self.assertEqual(cells.ask(name), 2)
        self.assertEqual(cells.cell_names, sorted(("a", "abcdefghijkl") + WORDS))
        for name in ("", "abcdefghijklm", "A", "a1", "a b"):
            for call in (lambda: cells.put(name, 1), lambda: cells.define(name, 1)):
                with self.assertRaises(BadName):
                    call()
        self.assertEqual(len(cells.cell_names), 7)

    def test_values(self):
        cells = Cells()
        for value in (-1000000, -1, 0, 1, 1000000, None):
            cells.put("a", value)
            self.assertEqual(cells.ask("a"), value)
            self.assertIsNone(cells.reads("a"))
        for value in (-1000001, 1000001, True, False):
            with self.assertRaises(BadValue):
                cells.put("a", value)
            with self.assertRaises(BadValue):
                cells.put("b", value)
        self.assertEqual((cells.cell_names, cells.ask("a")), (["a"], None))

    def test_true_and_false_are_no_formulas(self):
        for formula, way in ((True, ()), (("plus", False, 1), (1,)), (("or", 1, True), (2,))):
            self.assertEqual(raised(Cells().define, "a", formula), ("BadFormula", {"way": way, "reason": "range"}))

    def test_the_most_cells(self):
        for last in (1, ("plus", "a", 1)):
            cells = Cells()
            for name in NAMES[:23]:
                cells.put(name, 1)
            give(cells, NAMES[23], last)
            self.assertEqual(cells.cell_names, NAMES[:24])
            cells.ask("x")
            work = cells.work()
            for call in (lambda: cells.put("y", 1), lambda: cells.define("y", 1)):
                with self.assertRaises(TooManyCells):
                    call()
            self.assertEqual((cells.cell_names, cells.work()), (NAMES[:24], work))
            cells.put("x", 3)
            cells.define("x", "a")
            cells.put("a", 7)
            self.assertEqual(cells.ask("x"), 7)
            cells.remove("a")
            cells.define("y", "b")
            self.assertEqual(cells.ask("y"), 1)
            with self.assertRaises(TooManyCells):
                cells.put("a", 7)

    def test_which_error_comes_first(self):
        cells = Cells()
        for name in NAMES[:24]:
            cells.define(name, ("plus", "a", 1))
        cells.ask("b")
        before = (cells.cell_names, cells.work(), [cells.reads(name) for name in NAMES[:24]])
        cases = ((cells.put, "A", 1000001, BadName), (cells.put, "y", 1000001, BadValue), (cells.put, "y", 1, TooManyCells),
                 (cells.define, "A", (), BadName), (cells.define, "y", (), BadFormula),
                 (cells.define, "y", ("plus", 1, 2), TooManyCells), (cells.put, "a", 1000001, BadValue),
                 (cells.define, "a", ("plus", 1), BadFormula))
        for call, name, rule, error in cases:
            with self.assertRaises(error):
                call(name, rule)
            self.assertEqual((cells.cell_names, cells.work(), [cells.reads(one) for one in NAMES[:24]]), before)
        self.assertEqual(raised(cells.define, "y", ("plus", 1, ("if", 1))),
                         ("BadFormula", {"way": (2,), "reason": "length"}))

    def test_errors_are_own_ones(self):
        for error in (NoCell, TooManyCells, BadName, BadValue, BadFormula):
            self.assertEqual(error.__bases__, (TongueError,))

    def test_a_list_of_names_may_be_changed(self):
        cells = cells_of(a=1, b="a")
        cells.ask("b")
        for told in (cells.cell_names, cells.readers("a"), cells.reads("b")) + cells.work():
            told.clear()
        self.assertEqual((cells.cell_names, cells.readers("a"), cells.reads("b"), cells.work()),
                         (["a", "b"], ["b"], [("a", 1)], (["b"], [], [])))


class FormulasTest(unittest.TestCase):
    """[E2], [E3]"""

    def answer(self, formula, **rules):
        cells = cells_of(**rules)
        cells.define("z", formula)
        return cells.ask("z"), [name for name, _ in cells.reads("z")]

    def test_plain_values_and_names(self):
        for value in (-1000000, 0, 1000000, None):
            self.assertEqual(self.answer(value), (value, []))
            self.assertEqual(self.answer("a", a=value), (value, ["a"]))
        self.assertEqual(self.answer("a"), (None, ["a"]))
        self.assertEqual(self.answer("plus", plus=4), (4, ["plus"]))

    def test_sums(self):
        for first, second, value in ((1, 2, 3), (None, 2, 2), (1, None, 1), (None, None, None), (-5, 5, 0), (None, 0, 0),
                                     (999999, 1, 1000000), (999999, 2, 1000000), (1000000, 1000000, 1000000),
                                     (-999999, -1, -1000000), (-999999, -2, -1000000),
                                     (-1000000, -1000000, -1000000), (1000000, -1000000, 0)):
            self.assertEqual(self.answer(("plus", first, second)), (value, []))
            self.assertEqual(self.answer(("plus", "a", "b"), a=first, b=second), (value, ["a", "b"]))

    def test_a_sum_is_cut_where_it_arises(self):
        self.assertEqual(self.answer(("plus", ("plus", 1000000, 1), -1)), (999999, []))

    def test_the_least(self):
        for first, second, value in ((1, 2, 1), (2, 1, 1), (None, 2, 2), (1, None, 1), (None, None, None), (0, None, 0),
                                     (-3, 3, -3), (4, 4, 4)):
            self.assertEqual(self.answer(("least", first, second)), (value, []))
            self.assertEqual(self.answer(("least", "a", "b"), a=first, b=second), (value, ["a", "b"]))

    def test_or(self):
        for first, value, read in ((1, 1, ["a"]), (0, 0, ["a"]), (None, 8, ["a", "b"])):
            self.assertEqual(self.answer(("or", "a", "b"), a=first, b=8), (value, read))
        self.assertEqual(self.answer(("or", "a", "b"), a=None, b=None), (None, ["a", "b"]))

    def test_if(self):
        for first, value, read in ((1, 7, ["a", "b"]), (-1, 7, ["a", "b"]), (0, 8, ["a", "c"]), (None, 8, ["a", "c"])):
            self.assertEqual(self.answer(("if", "a", "b", "c"), a=first, b=7, c=8), (value, read))
        self.assertEqual(self.answer(("if", 1, None, 8)), (None, []))
        self.assertEqual(self.answer(("if", 0, 7, None)), (None, []))

    def test_cyclic(self):
        self.assertEqual(self.answer(("cyclic", "a"), a=1), (0, ["a"]))
        self.assertEqual(self.answer(("cyclic", "a"), a=None), (0, ["a"]))
        self.assertEqual(self.answer(("cyclic", "a")), (0, ["a"]))
        self.assertEqual(self.answer(("cyclic", "a"), a=same("a")), (1, ["a"]))
        self.assertEqual(self.answer(("if", ("cyclic", "a"), 5, "a"), a=same("a")), (5, ["a"]))

    def test_a_name_twice_and_names_without_a_cell(self):
        cells = cells_of(a=2, z=("plus", ("plus", "a", "b"), ("plus", "a", ("cyclic", "b"))))
        self.assertEqual(cells.ask("z"), 4)
        self.assertEqual(cells.reads("z"), [("a", 2), ("b", None), ("a", 2), ("b", None)])
        self.assertEqual(cells.readers("b"), ["z"])

    def test_what_is_not_needed_is_not_asked(self):
        cells = cells_of(a=1, b=same("c"), c=same("b"), z=("if", "a", ("or", 5, "b"), "c"))
        self.assertEqual(cells.ask("z"), 5)
        self.assertEqual(cells.work(), (["z"], [], []))
        self.assertIsNone(cells.reads("b"))

    def test_nothing_is_asked_behind_a_cyclic_answer(self):
        ring = {"a": same("a"), "b": same(1)}
        for formula in (("plus", "a", "b"), ("least", "a", "b"), ("or", "a", "b"), ("if", "a", "b", "b"),
                        ("plus", ("or", None, "a"), "b"), ("if", 1, ("plus", "a", "b"), 3),
                        ("or", ("if", ("plus", 1, "a"), 1, 2), "b")):
            cells = cells_of(z=formula, **ring)
            self.assertEqual(cells.ask("z"), "cyclic")
            self.assertEqual(cells.reads("z"), [("a", "cyclic")])
            self.assertEqual(cells.work(), (["a", "z"], [], ["a"]))


class RingsTest(unittest.TestCase):
    """[E4], [E5]"""

    def test_a_cell_that_asks_itself(self):
        for formula, told in (("a", []), (("cyclic", "a"), []), (("plus", "b", "a"), [("b", 3)]),
                              (("or", ("plus", "b", "b"), 1), None), (("if", ("cyclic", "a"), 1, 2), [])):
            cells = cells_of(b=3, a=formula)
            if told is None:
                self.assertEqual(cells.ask("a"), 6)
                continue
            self.assertEqual(cells.ask("a"), "cyclic")
            self.assertEqual(cells.reads("a"), told + [("a", "cyclic")])
            self.assertEqual(cells.work(), (["a"], [], ["a"]))

    def test_rings_of_several(self):
        for asks in (lambda name: same(name), lambda name: ("cyclic", name)):
            for many in (2, 3, 5, 24):
                rules = {name: asks(NAMES[(number + 1) % many]) for number, name in enumerate(NAMES[:many])}
                for first in NAMES[:many]:
                    cells = cells_of(**rules)
                    self.assertEqual(cells.ask(first), "cyclic")
                    self.assertEqual(cells.work(), (NAMES[:many], [], NAMES[:many]))
                    for number, name in enumerate(NAMES[:many]):
                        self.assertEqual(cells.reads(name), [(NAMES[(number + 1) % many], "cyclic")])

    def test_a_ring_from_outside(self):
        cells = cells_of(a=same("b"), b=same("a"), c=("plus", 1, "a"), d=("plus", 1, ("cyclic", "a")), e=same("c"))
        self.assertEqual([cells.ask(name) for name in "edcba"], ["cyclic", 2, "cyclic", "cyclic", "cyclic"])
        self.assertEqual(cells.work(), (["a", "b", "c", "d", "e"], [], ["a", "b"]))
        self.assertEqual(cells.reads("c"), [("a", "cyclic")])
        self.assertEqual(cells.reads("d"), [("a", "cyclic")])
        self.assertEqual(cells.readers("a"), ["b", "c", "d"])

    def test_rings_that_share_cells(self):
        # The cell a asks b first, so that the ring is that of a and b; c asks a from outside.
        rules = {"a": ("plus", "b", "c"), "b": same("a"), "c": same("a")}
        for order in itertools.permutations("abc"):
            cells = cells_of(**rules)
            self.assertEqual([cells.ask(name) for name in order], ["cyclic"] * 3)
            self.assertEqual(cells.work(), (["a", "b", "c"], [], ["a", "b"]))
            self.assertEqual(cells.reads("a"), [("b", "cyclic")])
            self.assertEqual(cells.reads("c"), [("a", "cyclic")])

    def test_rings_that_arise_after_certain_answers(self):
        for value, answers in ((1, ["cyclic", "cyclic"]), (0, [8, 8]), (None, [8, 8])):
            cells = cells_of(s=value, a=("if", "s", "b", 8), b=("plus", "a", 0))
            self.assertEqual([cells.ask("b"), cells.ask("a")], answers[::-1])
        cells = cells_of(s=1, a=("if", "s", "b", 8), b=("plus", "a", 0))
        cells.ask("a")
        self.assertEqual(cells.reads("a"), [("s", 1), ("b", "cyclic")])

    def test_a_ring_behind_a_ring(self):
        # By cyclic, b goes on behind the ring of a and then comes to be in a ring itself.
        cells = cells_of(a=same("a"), b=("if", ("cyclic", "a"), "c", 1), c=same("b"))
        self.assertEqual([cells.ask(name) for name in "cba"], ["cyclic"] * 3)
        self.assertEqual(cells.work()[2], ["a", "b", "c"])
        self.assertEqual(cells.reads("b"), [("a", "cyclic"), ("c", "cyclic")])

    def test_a_chain_of_24_cells(self):
        cells = cells_of(a=1, **{name: ("plus", NAMES[number], 1) for number, name in enumerate(NAMES[1:24])})
        self.assertEqual(cells.ask("x"), 24)
        self.assertEqual(cells.work(), (NAMES[1:24], [], []))
        cells.put("a", 5)
        self.assertEqual(cells.ask("m"), 17)
        self.assertEqual(cells.work(), (NAMES[1:13], [], []))

    def test_answers_in_every_order_of_asking(self):
        cases = ({"a": ("plus", "b", "c"), "b": ("or", ("cyclic", "c"), "a"), "c": ("if", ("cyclic", "d"), 1, "b"),
                  "d": ("plus", "d", "a")},
                 {"a": ("cyclic", "b"), "b": ("cyclic", "c"), "c": ("plus", "d", "a"), "d": ("least", 3, "e")},
                 {"a": ("or", "d", "b"), "b": ("or", "d", "c"), "c": ("plus", ("cyclic", "b"), "a"), "d": None})
        for rules in cases:
            answers, reads = from_nothing({name: ("input" if rule is None else "formula", rule)
                                           for name, rule in rules.items()})
            for order in itertools.permutations(rules):
                cells = cells_of(**rules)
                self.assertEqual({name: cells.ask(name) for name in order}, answers)
                self.assertEqual({name: cells.reads(name) for name in rules}, {name: reads.get(name) for name in rules})


class RevisionsTest(unittest.TestCase):
    """[E6], [E7]"""

    def asked(self, cells, *names):
        return [cells.ask(name) for name in names], cells.work()

    def test_a_changed_value_that_changes_no_answer(self):
        cells = cells_of(a=1, b=("if", "a", 5, 6), c=("plus", "b", 1))
        self.assertEqual(self.asked(cells, "c"), ([6], (["b", "c"], [], [])))
        cells.put("a", 2)
        self.assertEqual(cells.work(), ([], [], []))
        self.assertEqual(self.asked(cells, "c"), ([6], (["b"], ["c"], [])))
        cells.put("a", 0)
        self.assertEqual(self.asked(cells, "c"), ([7], (["b", "c"], [], [])))

    def test_nothing_is_answered_anew_in_a_revision(self):
        cells = cells_of(a=1, b=same("a"))
        cells.ask("b")
        cells.ask("b")
        self.assertEqual(cells.work(), (["b"], [], []))
        cells.put("d", 1)
        cells.ask("b")
        cells.ask("b")
        self.assertEqual(cells.work(), ([], ["b"], []))

    def test_a_read_that_goes_on_further(self):
        # Behind the change of b, c is run, comes to be in a ring of its own and answers otherwise.
        cells = cells_of(a=1, b=same("a"), c=("if", "b", 3, "c"), d=("plus", "a", ("cyclic", "c")))
        self.assertEqual(self.asked(cells, "d"), ([1], (["b", "c", "d"], [], [])))
        cells.put("a", 0)
        self.assertEqual(self.asked(cells, "d"), ([1], (["b", "c", "d"], [], ["c"])))

    def test_reads_are_asked_as_long_as_they_answer_the_same(self):
        cells = cells_of(s=1, a=same(2), b=same(3), z=("if", "s", ("plus", "a", "b"), 9))
        cells.ask("z")
        cells.put("s", 0)
        self.assertEqual(self.asked(cells, "z"), ([9], (["z"], [], [])))
        cells.put("s", 2)
        self.assertEqual(self.asked(cells, "z"), ([5], (["z"], ["a", "b"], [])))

    def test_a_rule_that_is_there_already(self):
        cells = cells_of(a=1, n=None, b=same("a"))
        cells.ask("b")
        for name, rule in (("a", 1), ("n", None), ("b", same("a"))):
            give(cells, name, rule)
            self.assertEqual(cells.work(), (["b"], [], []))
        cells.define("b", ("or", "a", None))
        self.assertEqual(cells.reads("b"), [("a", 1)])
        cells.put("n", 0)
        self.assertEqual(cells.work(), ([], [], []))

    def test_an_input_and_a_formula_are_never_the_same(self):
        cells = cells_of(a=1, b=same("a"))
        cells.ask("b")
        cells.define("a", 1)
        self.assertEqual(cells.work(), ([], [], []))
        self.assertEqual(self.asked(cells, "b"), ([1], (["a"], ["b"], [])))
        cells.put("a", 1)
        self.assertEqual(self.asked(cells, "b"), ([1], ([], ["b"], [])))
        cells.define("n", None)
        cells.put("n", None)
        self.assertEqual(cells.work(), ([], [], []))

    def test_a_new_formula_drops_the_memo(self):
        cells = cells_of(a=1, b=same("a"), c=same("b"))
        cells.ask("c")
        cells.define("b", ("or", "a", 7))
        self.assertIsNone(cells.reads("b"))
        self.assertEqual(cells.reads("c"), [("b", 1)])
        self.assertEqual(self.asked(cells, "c"), ([1], (["b"], ["c"], [])))
        cells.put("b", 4)
        self.assertIsNone(cells.reads("b"))
        self.assertEqual(self.asked(cells, "c"), ([4], (["c"], [], [])))

    def test_removal_and_a_name_that_comes_again(self):
        cells = cells_of(a=1, b=same("a"), c=("or", "b", 5))
        cells.ask("c")
        cells.remove("b")
        self.assertEqual(cells.cell_names, ["a", "c"])
        self.assertEqual(self.asked(cells, "c"), ([5], (["c"], [], [])))
        self.assertEqual(cells.reads("c"), [("b", None)])
        cells.define("b", same("a"))
        self.assertIsNone(cells.reads("b"))
        self.assertEqual(self.asked(cells, "c"), ([1], (["b", "c"], [], [])))
        cells.remove("b")
        cells.put("b", 1)
        self.assertEqual(self.asked(cells, "c"), ([1], ([], ["c"], [])))

    def test_a_cell_with_none_is_as_no_cell(self):
        cells = cells_of(c=("or", "b", 5))
        cells.ask("c")
        cells.put("b", None)
        self.assertEqual(self.asked(cells, "c"), ([5], ([], ["c"], [])))
        cells.define("b", ("plus", None, None))
        self.assertEqual(self.asked(cells, "c"), ([5], (["b"], ["c"], [])))
        cells.remove("b")
        self.assertEqual(self.asked(cells, "c"), ([5], ([], ["c"], [])))

    def test_a_ring_that_is_kept(self):
        cells = cells_of(s=1, a=("plus", "s", "b"), b=same("a"), d=same("a"), n=1)
        self.assertEqual(self.asked(cells, "d"), (["cyclic"], (["a", "b", "d"], [], ["a", "b"])))
        cells.put("n", 2)
        self.assertEqual(self.asked(cells, "b"), (["cyclic"], ([], ["a", "b"], ["a", "b"])))
        self.assertEqual(self.asked(cells, "d"), (["cyclic"], ([], ["a", "b", "d"], ["a", "b"])))
        self.assertEqual(cells.reads("a"), [("s", 1), ("b", "cyclic")])

    def test_a_ring_with_one_that_is_run_anew(self):
        cells = cells_of(s=1, a=("plus", "s", "b"), b=same("a"))
        cells.ask("a")
        cells.put("s", 2)
        self.assertEqual(self.asked(cells, "b"), (["cyclic"], (["a"], ["b"], ["a", "b"])))
        self.assertEqual(cells.reads("a"), [("s", 2), ("b", "cyclic")])

    def test_a_ring_that_is_none_any_more(self):
        cells = cells_of(s=1, a=("if", "s", "b", 3), b=same("a"))
        cells.ask("a")
        cells.put("s", 0)
        self.assertEqual(self.asked(cells, "b", "a"), ([3, 3], (["a", "b"], [], [])))
        self.assertEqual(cells.reads("b"), [("a", 3)])
        cells.put("s", 4)
        self.assertEqual(self.asked(cells, "b"), (["cyclic"], (["a"], ["b"], ["a", "b"])))

    def test_the_cell_asked_last_comes_to_be_in_another_ring(self):
        cells = cells_of(a=same("b"), b=same("a"))
        cells.ask("a")
        cells.define("b", same("b"))
        self.assertEqual(self.asked(cells, "a"), (["cyclic"], (["a", "b"], [], ["b"])))
        self.assertEqual(cells.reads("a"), [("b", "cyclic")])

    def test_a_memo_that_comes_to_be_in_a_ring_while_its_reads_are_asked(self):
        cells = cells_of(s=1, t=2, b=("if", "t", 3, "a"), a=("plus", "s", ("plus", "b", "t")))
        self.assertEqual(self.asked(cells, "a"), ([6], (["a", "b"], [], [])))
        cells.put("t", 0)
        self.assertEqual(self.asked(cells, "a"), (["cyclic"], (["b"], ["a"], ["a", "b"])))
        self.assertEqual(cells.reads("a"), [("s", 1), ("b", "cyclic")])
        self.assertEqual(cells.readers("t"), ["b"])

    def test_readers(self):
        cells = cells_of(a=1, b=same("a"), c=("plus", "a", "c"), d=("if", "a", 1, "b"))
        self.assertEqual(cells.readers("a"), [])
        for name in "dcb":
            cells.ask(name)
        self.assertEqual([cells.readers(name) for name in "abcd"], [["b", "c", "d"], [], ["c"], []])
        cells.put("a", 0)
        self.assertEqual(cells.readers("a"), ["b", "c", "d"])
        cells.ask("d")
        self.assertEqual(cells.readers("b"), ["d"])
        cells.define("c", "b")
        self.assertEqual(cells.readers("c"), [])
        cells.remove("d")
        self.assertEqual(cells.readers("a"), ["b"])

    def test_trim(self):
        cells = cells_of(a=1, b=same("a"), c=same("b"), d=same("c"), e=same("d"))
        cells.ask("d")
        self.assertEqual(cells.trim(), 0)
        cells.put("n", 1)
        cells.ask("b")
        self.assertEqual(cells.trim(), 2)
        self.assertEqual([cells.reads(name) for name in "bcde"], [[("a", 1)], None, None, None])
        self.assertEqual(cells.work(), ([], ["b"], []))
        self.assertEqual(self.asked(cells, "d"), ([1], (["c", "d"], ["b"], [])))
        self.assertEqual(cells.trim(), 0)

    def test_no_cell(self):
        cells = cells_of(a=1)
        for call in (cells.remove, cells.ask, cells.reads):
            for name in ("b", "", "A"):
                with self.assertRaises(NoCell):
                    call(name)
        cells.remove("a")
        for call in (cells.remove, cells.ask, cells.reads):
            with self.assertRaises(NoCell):
                call("a")
        self.assertEqual(cells.readers("a"), [])


class HistoriesTest(unittest.TestCase):
    """[E8], [0.2]"""

    def formula(self, rng, names, depth):
        word = rng.choice(WORDS + ("name",) * 4 + ("value",))
        if depth == 0 or word in ("name", "value"):
            return rng.choice(names) if word != "value" else rng.choice((None, 0, 1, -2))
        if word == "cyclic":
            return (word, rng.choice(names))
        return (word,) + tuple(self.formula(rng, names, depth - 1) for _ in range(3 if word == "if" else 2))

    def step(self, rng, names, cells, slow):
        """One change of both, or none."""
        name = rng.choice(names)
        sort = rng.choice(("put", "put", "define", "define", "remove", "trim", "none"))
        if sort == "put":
            rule = rng.choice((None, 0, 1, 5))
            cells.put(name, rule)
            slow.give(name, ("input", rule))
        elif sort == "define":
            rule = self.formula(rng, names, rng.randint(0, 3))
            cells.define(name, rule)
            slow.give(name, ("formula", rule))
        elif sort == "remove" and name in slow.rules:
            cells.remove(name)
            slow.remove(name)
        elif sort == "trim":
            self.assertEqual(cells.trim(), slow.trim())

    def test_answers_and_work_after_many_changes(self):
        for seed in range(150):
            rng = random.Random(seed)
            names = NAMES[:rng.randint(2, 7)]
            cells, slow = Cells(), SlowCells()
            for _ in range(40):
                self.step(rng, names, cells, slow)
                answers, reads = from_nothing(slow.rules)
                for name in rng.sample(sorted(slow.rules), rng.randint(0, len(slow.rules))):
                    self.assertEqual(cells.ask(name), answers[name])
                    self.assertEqual(slow.ask(name), answers[name])
                    self.assertEqual(cells.reads(name), reads.get(name))
                self.assertEqual(cells.work(), slow.work())
                self.assertEqual([cells.reads(name) for name in cells.cell_names],
                                 [slow.reads(name) for name in sorted(slow.rules)])
                self.assertEqual(cells.cell_names, sorted(slow.rules))

    def test_what_runs_again_has_read_something_with_another_answer(self):
        for seed in range(60):
            rng = random.Random(1000 + seed)
            names = NAMES[:6]
            cells, slow = Cells(), SlowCells()
            for _ in range(30):
                reads = {name: cells.reads(name) for name in cells.cell_names}
                rings = [name for name in reads if name in cells.work()[2]]
                self.step(rng, names, cells, slow)
                if cells.work() != ([], [], []):
                    continue
                kept = [name for name in cells.cell_names if cells.reads(name) == reads.get(name, 0) is not None]
                answers = {name: cells.ask(name) for name in cells.cell_names}
                for name in cells.work()[0]:
                    if name in kept and name not in rings:
                        self.assertNotEqual([answers.get(read) for read, _ in reads[name]],
                                            [answer for _, answer in reads[name]])


if __name__ == "__main__":
    unittest.main()
