"""Values and operations ([H7], [H8], [H10])."""

import random
import unittest

from tongues.values import gathered, settled, worked

BIG = 10 ** 60
ABSENT = ("absent",)


def number(value):
    return ("integer", value)


def text(value):
    return ("text", value)


def truth(value):
    return ("boolean", value)


def term(label, *below):
    return ("term", label, below)


def high(height):
    """A term of a height, with one term below each other one."""
    tree = term("a")
    for _ in range(height):
        tree = term("a", tree)
    return tree


def wide(many):
    """A term of so many terms."""
    return term("a", *[term("b")] * (many - 1))


# For each operation operands that go together, and the result.
WORKED = [
    ("not", [truth(True)], truth(False)), ("not", [truth(False)], truth(True)),
    ("negative", [number(5)], number(-5)), ("negative", [number(0)], number(0)), ("negative", [number(-BIG)], number(BIG)),
    ("length", [text("")], number(0)), ("length", [text("a b\n")], number(4)), ("length", [text("a" * 1000)], number(1000)),
    ("shown", [number(0)], text("0")), ("shown", [number(-12)], text("-12")), ("shown", [number(BIG)], text("1" + "0" * 60)),
    ("shown", [number(-BIG)], text("-1" + "0" * 60)),
    ("parsed", [text("0")], number(0)), ("parsed", [text("12")], number(12)), ("parsed", [text("007")], number(7)),
    ("parsed", [text("0" * 1000)], number(0)), ("parsed", [text("0" * 900 + "1" + "0" * 60)], number(BIG)),
    ("parsed", [text("1" + "0" * 60)], number(BIG)), ("parsed", [text("1" + "0" * 59 + "1")], ABSENT),
    ("parsed", [text("9" * 1000)], ABSENT), ("parsed", [text("")], ABSENT), ("parsed", [text("-1")], ABSENT),
    ("parsed", [text("+1")], ABSENT), ("parsed", [text(" 1")], ABSENT), ("parsed", [text("1 ")], ABSENT),
    ("parsed", [text("1_0")], ABSENT), ("parsed", [text("a")], ABSENT), ("parsed", [text("1a")], ABSENT),
    ("label", [term("a", term("b"))], text("a")), ("label", [term("")], text("")),
    ("size", [term("a")], number(0)), ("size", [term("a", term("b", term("c")), term("d"))], number(2)),
    ("named", [text("ab")], term("ab")), ("named", [text("")], term("")),
    ("add", [number(2), number(-5)], number(-3)), ("add", [number(BIG), number(0)], number(BIG)),
    ("add", [number(BIG), number(1)], ABSENT), ("add", [number(-BIG), number(-1)], ABSENT),
    ("add", [number(BIG), number(-BIG)], number(0)),
    ("subtract", [number(2), number(5)], number(-3)), ("subtract", [number(-BIG), number(1)], ABSENT),
    ("subtract", [number(BIG), number(-1)], ABSENT), ("subtract", [number(BIG), number(BIG)], number(0)),
    ("multiply", [number(3), number(-4)], number(-12)), ("multiply", [number(10 ** 30), number(10 ** 30)], number(BIG)),
    ("multiply", [number(10 ** 30), number(-10 ** 30)], number(-BIG)),
    ("multiply", [number(10 ** 30), number(10 ** 30 + 1)], ABSENT), ("multiply", [number(BIG), number(-BIG)], ABSENT),
    ("quotient", [number(7), number(2)], number(3)), ("quotient", [number(-7), number(2)], number(-3)),
    ("quotient", [number(7), number(-2)], number(-3)), ("quotient", [number(-7), number(-2)], number(3)),
    ("quotient", [number(6), number(-2)], number(-3)), ("quotient", [number(1), number(2)], number(0)),
    ("quotient", [number(-1), number(2)], number(0)), ("quotient", [number(0), number(-5)], number(0)),
    ("quotient", [number(7), number(0)], ABSENT), ("quotient", [number(0), number(0)], ABSENT),
    ("quotient", [number(BIG - 1), number(10)], number(10 ** 59 - 1)),
    ("remainder", [number(7), number(2)], number(1)), ("remainder", [number(-7), number(2)], number(-1)),
    ("remainder", [number(7), number(-2)], number(1)), ("remainder", [number(-7), number(-2)], number(-1)),
    ("remainder", [number(6), number(-2)], number(0)), ("remainder", [number(7), number(0)], ABSENT),
    ("remainder", [number(BIG - 1), number(10)], number(9)), ("remainder", [number(1 - BIG), number(10)], number(-9)),
    ("less", [number(1), number(2)], truth(True)), ("less", [number(2), number(2)], truth(False)),
    ("less", [number(3), number(2)], truth(False)), ("less", [number(-BIG), number(BIG)], truth(True)),
    ("same", [number(1), number(1)], truth(True)), ("same", [number(1), number(2)], truth(False)),
    ("same", [text("a"), text("a")], truth(True)), ("same", [text("a"), text("A")], truth(False)),
    ("same", [truth(True), truth(True)], truth(True)), ("same", [truth(True), truth(False)], truth(False)),
    ("same", [term("a", term("b")), term("a", term("b"))], truth(True)),
    ("same", [term("a", term("b")), term("a", term("c"))], truth(False)),
    ("same", [term("a", term("b")), term("a")], truth(False)), ("same", [high(100), high(100)], truth(True)),
    ("and", [truth(True), truth(True)], truth(True)), ("and", [truth(True), truth(False)], truth(False)),
    ("and", [truth(False), truth(True)], truth(False)), ("and", [truth(False), truth(False)], truth(False)),
    ("or", [truth(True), truth(True)], truth(True)), ("or", [truth(True), truth(False)], truth(True)),
    ("or", [truth(False), truth(True)], truth(True)), ("or", [truth(False), truth(False)], truth(False)),
    ("append", [text("a"), text("b")], text("ab")), ("append", [text(""), text("")], text("")),
    ("append", [text("a" * 500), text("b" * 500)], text("a" * 500 + "b" * 500)),
    ("append", [text("a" * 500), text("b" * 501)], ABSENT), ("append", [text("a" * 1000), text("")], text("a" * 1000)),
    ("with", [term("a"), term("b")], term("a", term("b"))),
    ("with", [term("a", term("b")), term("c", term("d"))], term("a", term("b"), term("c", term("d")))),
    ("with", [term("a"), wide(399)], term("a", wide(399))), ("with", [term("a"), wide(400)], ABSENT),
    ("with", [wide(399), term("b")], wide(400)), ("with", [wide(400), term("b")], ABSENT),
    ("with", [wide(200), wide(200)], term("a", *[term("b")] * 199, wide(200))), ("with", [wide(200), wide(201)], ABSENT),
    ("with", [term("a"), high(99)], high(100)), ("with", [term("a"), high(100)], ABSENT),
    ("with", [high(100), term("a")], term("a", high(99), term("a"))),
    ("argument", [term("a", term("b"), term("c")), number(0)], term("b")),
    ("argument", [term("a", term("b"), term("c")), number(1)], term("c")),
    ("argument", [term("a", term("b"), term("c")), number(2)], ABSENT),
    ("argument", [term("a", term("b"), term("c")), number(-1)], ABSENT),
    ("argument", [term("a"), number(0)], ABSENT), ("argument", [term("a", term("b")), number(BIG)], ABSENT)]


class SettledTest(unittest.TestCase):
    def test_what_is_small_enough(self):
        for value in (number(0), number(BIG), number(-BIG), text(""), text("a" * 1000), truth(True), truth(False), term(""),
                      wide(400), high(100), term("a", wide(200), wide(199)), ABSENT, ("cycle",)):
            self.assertEqual(settled(value), value)

    def test_what_is_too_large(self):
        for value in (number(BIG + 1), number(-BIG - 1), number(10 ** 100), text("a" * 1001), wide(401), high(101),
                      high(300), term("a", wide(200), wide(200)), term("a", high(100)), term("a", term("b"), high(100))):
            self.assertEqual(settled(value), ABSENT)


class WorkedTest(unittest.TestCase):
    def test_every_operation(self):
        for head, operands, result in WORKED:
            found = worked(head, operands)
            self.assertEqual(found, result, (head, operands))
            self.assertIs(type(found[-1]), type(result[-1]), (head, operands))
        self.assertEqual(len({head for head, _, _ in WORKED}), 20)

    def test_the_kinds_of_values(self):
        for head, operands, result in WORKED:
            if result[0] == "boolean":
                self.assertIsInstance(worked(head, operands)[1], bool)
            if result[0] == "integer":
                self.assertNotIsInstance(worked(head, operands)[1], bool)

    def test_absent_operands(self):
        for head, operands, _ in WORKED:
            for place in range(len(operands)):
                self.assertEqual(worked(head, operands[:place] + [ABSENT] + operands[place + 1:]), ABSENT)
            self.assertEqual(worked(head, [ABSENT] * len(operands)), ABSENT)

    def test_operands_are_not_changed(self):
        operands = [term("a"), term("b")]
        worked("with", operands)
        self.assertEqual(operands, [term("a"), term("b")])

    def test_quotients_and_remainders_go_together(self):
        rng = random.Random(3)
        for _ in range(500):
            first, second = rng.randint(-50, 50), rng.choice((-7, -3, -1, 1, 2, 5, 60))
            many = worked("quotient", [number(first), number(second)])[1]
            rest = worked("remainder", [number(first), number(second)])[1]
            self.assertEqual(many, int(first / second))
            self.assertEqual(many * second + rest, first)


class GatheredTest(unittest.TestCase):
    def test_no_values(self):
        for head, result in (("sum", number(0)), ("all", truth(True)), ("any", truth(False)), ("collect", term("")),
                             ("join", text(""))):
            self.assertEqual(gathered(head, [], ", "), result)
            self.assertEqual(gathered(head, [], None), result)

    def test_values(self):
        for head, values, result in (
                ("sum", [number(3)], number(3)), ("sum", [number(3), number(-5), number(1)], number(-1)),
                ("all", [truth(True)], truth(True)), ("all", [truth(False)], truth(False)),
                ("all", [truth(True), truth(False), truth(True)], truth(False)), ("all", [truth(True)] * 3, truth(True)),
                ("any", [truth(True)], truth(True)), ("any", [truth(False)], truth(False)),
                ("any", [truth(False), truth(True), truth(False)], truth(True)), ("any", [truth(False)] * 3, truth(False)),
                ("collect", [term("a", term("b"))], term("", term("a", term("b")))),
                ("collect", [term("a"), term("b"), term("a")], term("", term("a"), term("b"), term("a")))):
            self.assertEqual(gathered(head, values, None), result)

    def test_join(self):
        for values, between, result in ((["a"], ", ", "a"), (["a", "b", "c"], ", ", "a, b, c"), (["a", "b"], "", "ab"),
                                        (["", "", ""], "-", "--"), ([""], "-", ""), (["a", "", "b"], "\n", "a\n\nb")):
            self.assertEqual(gathered("join", [text(one) for one in values], between), text(result))

    def test_absent_values(self):
        for head, value in (("sum", number(1)), ("all", truth(False)), ("any", truth(True)), ("collect", term("a")),
                            ("join", text("a"))):
            for values in ([ABSENT], [ABSENT, value], [value, ABSENT], [value, ABSENT, value], [ABSENT, ABSENT]):
                self.assertEqual(gathered(head, values, ", "), ABSENT)

    def test_an_absent_step(self):
        self.assertEqual(gathered("sum", [number(BIG), number(1), number(-1)], None), ABSENT)
        self.assertEqual(gathered("sum", [number(BIG), number(-1), number(1)], None), number(BIG))
        self.assertEqual(gathered("sum", [number(-BIG), number(-1), number(5)], None), ABSENT)
        self.assertEqual(gathered("collect", [term("a")] * 399, None)[0], "term")
        self.assertEqual(gathered("collect", [term("a")] * 400, None), ABSENT)
        self.assertEqual(gathered("collect", [high(99)], None), term("", high(99)))
        self.assertEqual(gathered("collect", [term("a"), high(100), term("a")], None), ABSENT)

    def test_long_texts(self):
        self.assertEqual(gathered("join", [text("a" * 499), text("b" * 500)], "-"), text("a" * 499 + "-" + "b" * 500))
        self.assertEqual(gathered("join", [text("a" * 500), text("b" * 500)], "-"), ABSENT)
        self.assertEqual(gathered("join", [text("a" * 500), text("b" * 500)], ""), text("a" * 500 + "b" * 500))
        self.assertEqual(gathered("join", [text("a" * 1000), text("")], ""), text("a" * 1000))
        self.assertEqual(gathered("join", [text("a" * 1000), text("")], "-"), ABSENT)
        self.assertEqual(gathered("join", [text("a" * 1000)], "-" * 60), text("a" * 1000))

    def test_values_are_not_changed(self):
        values = [term("a"), term("b")]
        gathered("collect", values, None)
        self.assertEqual(gathered("collect", [], None), term(""))
        self.assertEqual(values, [term("a"), term("b")])


if __name__ == "__main__":
    unittest.main()
