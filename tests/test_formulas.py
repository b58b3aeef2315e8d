"""Formulas of cells ([E1], [E2])."""

import unittest

from tongues.formulas import BadFormula, check_formula


def nested(many, innermost=1):
    """A formula with so many tuples one in the other, the innermost thing at the last place of each."""
    formula = innermost
    for _ in range(many):
        formula = ("or", None, formula)
    return formula


class FormulasTest(unittest.TestCase):
    def wrong(self, formula):
        with self.assertRaises(BadFormula) as caught:
            check_formula(formula)
        return (caught.exception.way, caught.exception.reason)

    def test_formulas_that_are_allowed(self):
        for formula in (0, 1, -1, 1000000, -1000000, None, "a", "abcdefghijkl", ("plus", 1, "b"), ("least", None, -5),
                        ("or", "a", "a"), ("if", "a", None, ("plus", 1, 2)), ("cyclic", "a"), ("cyclic", "plus"), "if",
                        ("if", ("cyclic", "z"), ("or", "b", ("least", 1, "c")), ("plus", ("plus", "d", "e"), "f"))):
            self.assertIsNone(check_formula(formula))

    def test_depth(self):
        self.assertIsNone(check_formula(nested(6)))
        self.assertIsNone(check_formula(nested(5, ("cyclic", "a"))))
        self.assertEqual(self.wrong(nested(7)), ((2,) * 6, "depth"))
        self.assertEqual(self.wrong(nested(9)), ((2,) * 6, "depth"))
        self.assertEqual(self.wrong(nested(6, ("cyclic", "a"))), ((2,) * 6, "depth"))
        self.assertEqual(self.wrong(("if", 1, nested(6), 2)), ((2,) * 6, "depth"))

    def test_depth_comes_ahead_of_other_reasons(self):
        for innermost in ((), ("nothing",), ("plus", 1), ("plus", "A", 1), ("cyclic", 1)):
            self.assertEqual(self.wrong(nested(6, innermost)), ((2,) * 6, "depth"))
        self.assertEqual(self.wrong(nested(5, ())), ((2,) * 5, "word"))

    def test_words(self):
        for formula in ((), ("nothing",), ("Plus", 1, 2), ("", 1, 2), ("minus", 1, 2), ("a",), ("nothing", 1, 2, 3, 4)):
            self.assertEqual(self.wrong(formula), ((), "word"))
        self.assertEqual(self.wrong(("plus", (), 1)), ((1,), "word"))

    def test_lengths(self):
        for word, size in (("plus", 3), ("least", 3), ("or", 3), ("if", 4), ("cyclic", 2)):
            for other in (1, 2, 3, 4, 5):
                formula = (word,) + ("a",) * (other - 1)
                if other == size:
                    self.assertIsNone(check_formula(formula))
                else:
                    self.assertEqual(self.wrong(formula), ((), "length"))
        self.assertEqual(self.wrong(("cyclic", "A", "B")), ((), "length"))
        self.assertEqual(self.wrong(("or", 1, ("if", 1, 2))), ((2,), "length"))

    def test_names(self):
        for name in ("", "A", "abcdefghijklm", "a b", "a1", "a-b"):
            self.assertEqual(self.wrong(name), ((), "name"))
            self.assertEqual(self.wrong(("plus", "a", name)), ((2,), "name"))
            self.assertEqual(self.wrong(("cyclic", name)), ((1,), "name"))

    def test_cyclic_takes_a_name_alone(self):
        for other in (1, 1000001, None, ("plus", 1, 2), ("cyclic", "a"), (), ("nothing",)):
            self.assertEqual(self.wrong(("cyclic", other)), ((1,), "name"))
        self.assertEqual(self.wrong(("if", 1, ("cyclic", 1), 1000001)), ((2, 1), "name"))

    def test_range(self):
        for number in (1000001, -1000001, 10 ** 30):
            self.assertEqual(self.wrong(number), ((), "range"))
            self.assertEqual(self.wrong(("if", 1, number, number)), ((2,), "range"))

    def test_the_first_wrong_part(self):
        self.assertEqual(self.wrong(("plus", 1000001, "A")), ((1,), "range"))
        self.assertEqual(self.wrong(("plus", "A", 1000001)), ((1,), "name"))
        self.assertEqual(self.wrong(("plus", ("or", 1, "A"), ())), ((1, 2), "name"))
        self.assertEqual(self.wrong(("plus", ("or", 1, 2), ())), ((2,), "word"))
        # a part ahead of its own parts
        self.assertEqual(self.wrong(("plus", ("nothing", "A"), "A")), ((1,), "word"))
        self.assertEqual(self.wrong(("plus", "A")), ((), "length"))
        self.assertEqual(self.wrong(("if", ("or", "a", ("plus", "b", "C")), (), 1000001)), ((1, 2, 2), "name"))


if __name__ == "__main__":
    unittest.main()
