"""Expressions ([H4] to [H6])."""

import random
import unittest

from tongues.errors import TongueError
from tongues.expressions import BadExpression, operands, parts, read_expression, write_expression
from tests.raising import raised

ONE, TWO, THREE = ("integer", 1), ("text", "b"), ("boolean", True)
UNARY = ("not", "negative", "length", "shown", "parsed", "label", "size", "named")
BINARY = ("add", "subtract", "multiply", "quotient", "remainder", "less", "same", "and", "or", "append", "with",
          "argument", "else")
# Each form with its canonical text and its operands.
FORMS = [
    (("integer", 12), "12", ()), (("integer", 0), "0", ()), (("integer", -3), "-3", ()),
    (("integer", 1000000), "1000000", ()), (("integer", -1000000), "-1000000", ()),
    (("boolean", True), "true", ()), (("boolean", False), "false", ()),
    (("text", ""), '""', ()), (("text", "a b"), '"a b"', ()), (("text", "\"\\\n"), '"\\"\\\\\n"', ()),
    (("term", "t", ()), '(term "t")', ()), (("term", "", (ONE,)), '(term "" 1)', (ONE,)),
    (("term", "a\"", (ONE, TWO, THREE)), '(term "a\\"" 1 "b" true)', (ONE, TWO, THREE)),
    (("term", "t", (("boolean", True), ("named", ("text", "u")))), '(term "t" true (named "u"))',
     (("boolean", True), ("named", ("text", "u")))),
    (("own", "a"), "(own a)", ()), (("child", "f", "a"), "(child f a)", ()),
    (("before", "a", ONE), "(before a 1)", (ONE,)), (("has", "f"), "(has f)", ()), (("count", "f"), "(count f)", ()),
    (("spelling", "f"), "(spelling f)", ()), (("meant", "f", "a"), "(meant f a)", ()),
    (("last", "f", "a", TWO), '(last f a "b")', (TWO,)), (("sum", "f", "a"), "(sum f a)", ()),
    (("all", "f", "a"), "(all f a)", ()), (("any", "f", "a"), "(any f a)", ()),
    (("collect", "f", "a"), "(collect f a)", ()), (("join", "f", "a", ", "), '(join f a ", ")', ()),
    (("if", THREE, ONE, TWO), '(if true 1 "b")', (THREE, ONE, TWO)),
    (("add", ("child", "left", "worth"), ("integer", 1)), "(add (child left worth) 1)",
     (("child", "left", "worth"), ("integer", 1))),
    (("own", "true"), "(own true)", ()), (("child", "add", "term"), "(child add term)", ()),
    (("has", "abcdefghijkl"), "(has abcdefghijkl)", ())]
FORMS += [((word, ONE), f"({word} 1)", (ONE,)) for word in UNARY]
FORMS += [((word, ONE, TWO), f'({word} 1 "b")', (ONE, TWO)) for word in BINARY]


def nested(levels, innermost="1"):
    """A text with so many levels of parentheses."""
    return "(not " * levels + innermost + ")" * levels


class Case(unittest.TestCase):
    def wrong(self, text, position):
        self.assertEqual(raised(read_expression, text), ("BadExpression", {"position": position}), text)


class FormsTest(Case):
    def test_the_error(self):
        self.assertEqual(BadExpression.__bases__, (TongueError,))

    def test_every_form(self):
        for expression, text, direct in FORMS:
            self.assertEqual(read_expression(text), expression)
            self.assertEqual(write_expression(expression), text)
            self.assertEqual(operands(expression), direct)

    def test_parts(self):
        for expression, _, direct in FORMS:
            expected = []
            for operand in direct:
                expected.extend(parts(operand))
            self.assertEqual(parts(expression), expected + [expression])
        expression = read_expression('(if (has f) (add (own a) (last g b 4)) (term "x" (before c 5) (own a)))')
        self.assertEqual([write_expression(part) for part in parts(expression)], [
            "(has f)", "(own a)", "4", "(last g b 4)", "(add (own a) (last g b 4))", "5", "(before c 5)", "(own a)",
            '(term "x" (before c 5) (own a))', write_expression(expression)])
        self.assertEqual(len(operands(expression)), 3)

    def test_a_list_of_parts_may_be_changed(self):
        expression = ("not", THREE)
        parts(expression).clear()
        self.assertEqual(parts(expression), [THREE, expression])

    def test_values_are_of_their_kinds(self):
        self.assertIs(read_expression("true")[1], True)
        self.assertIs(type(read_expression("1")[1]), int)
        self.assertIsInstance(read_expression('(term "a" 1)')[2], tuple)


class LayoutTest(Case):
    def test_spaces_and_line_feeds(self):
        for text in ("(add (child left worth) 1)", " \n(\nadd\n(  child left\n\nworth ) \n1 \n) \n", "(add(child left worth)1)"):
            self.assertEqual(read_expression(text), ("add", ("child", "left", "worth"), ("integer", 1)))
        for text in ('(term "a" 1 "b" true)', '(term"a"1"b"true)', '( term "a"1 "b"true )'):
            self.assertEqual(read_expression(text), ("term", "a", (ONE, TWO, THREE)))
        for text in ("1", " 1", "1 ", "\n\n 1 \n"):
            self.assertEqual(read_expression(text), ONE)

    def test_tokens_that_touch(self):
        self.assertEqual(read_expression("(add 1-2)"), ("add", ("integer", 1), ("integer", -2)))
        self.assertEqual(read_expression("(last f a(own b))"), ("last", "f", "a", ("own", "b")))
        self.assertEqual(read_expression("(if true 1true)"), ("if", THREE, ONE, THREE))

    def test_spaces_within_texts(self):
        self.assertEqual(read_expression('" a \n b "'), ("text", " a \n b "))
        self.assertEqual(write_expression(("text", " a \n b ")), '" a \n b "')


class LimitsTest(Case):
    def test_integers(self):
        for text, number in (("1000000", 1000000), ("-1000000", -1000000), ("0", 0), ("-1", -1), ("999999", 999999)):
            self.assertEqual(read_expression(text), ("integer", number))
        for text in ("1000001", "-1000001", "10000000", "9" * 5000, "-" + "9" * 5000, "00", "01", "-01", "-0", "-00", "-",
                     "- 1", "--1", "-a", "+1", "0000000001"):
            self.wrong(text, 0)
            self.wrong(" " + text, 1)
            self.wrong("(not " + text + ")", 5)

    def test_texts(self):
        for text in ("", "a" * 60, "\"" * 60, "\\" * 60, "\n" * 60, " ", "\\n", "()", "true"):
            written = '"' + text.replace("\\", "\\\\").replace('"', '\\"') + '"'
            for before, after, wrap in (("", "", lambda one: ("text", one)),
                                        ("(term ", ")", lambda one: ("term", one, ())),
                                        ("(join f a ", ")", lambda one: ("join", "f", "a", one))):
                self.assertEqual(read_expression(before + written + after), wrap(text))
                self.assertEqual(write_expression(wrap(text)), before + written + after)
        for text in ('"' + "a" * 61 + '"', '"' + '\\"' * 61 + '"', '"', '"a', '"a\\"', '"\\', '"\\n"', '"a\\b"', '"\\ "',
                     '"' + "a" * 61):
            self.wrong(text, 0)
            self.wrong("(term " + text + ")", 6)
            self.wrong("(join f a " + text + ")", 10)

    def test_names(self):
        long_name = "abcdefghijklm"
        for text, position in ((f"(own {long_name})", 5), (f"(child {long_name} a)", 7), (f"(child f {long_name})", 9),
                               (f"(last f {long_name} 1)", 8), ("(own A)", 5), ("(own 1)", 5), ("(own \"a\")", 5),
                               ("(own (own a))", 5), ("(own)", 4), ("(own a1)", 6), ("(own a b)", 7), ("(has a-b)", 6)):
            self.wrong(text, position)

    def test_terms(self):
        for many in range(7):
            self.assertEqual(read_expression('(term "t"' + " 1" * many + ")"), ("term", "t", (ONE,) * many))
        self.wrong('(term "t"' + " 1" * 7 + ")", 9 + 13)
        self.wrong('(term "t"' + " 1" * 6 + " A)", 9 + 13)
        self.wrong('(term "t"' + " 1" * 6, 9 + 12)
        self.wrong("(term)", 5)
        self.wrong("(term t)", 6)
        self.wrong("(term 1)", 6)

    def test_levels_of_parentheses(self):
        self.assertEqual(write_expression(read_expression(nested(12))), nested(12))
        for levels in (13, 14, 20):
            self.wrong(nested(levels), 12 * 5)
        self.wrong(nested(12, "(own a)"), 12 * 5)
        self.wrong(nested(12, "A"), 12 * 5)
        self.wrong("(add " + nested(11) + " " + nested(12) + ")", len("(add " + nested(11) + " ") + 11 * 5)
        self.assertEqual(len(parts(read_expression("(add " + nested(11) + " " + nested(11) + ")"))), 25)
        # At the parenthesis, whatever stands behind it.
        self.wrong("(not " * 12 + "(", 60)
        self.wrong("(not " * 12 + "()", 60)

    def test_numbers_of_parts(self):
        row = '(term "" 1 1 1 1 1 1)'
        begin = '(add (term "" ' + " ".join([row] * 6) + f') (term "" {row} {row} '
        sixty = begin + "1))"
        self.assertEqual(len(parts(read_expression(sixty))), 60)
        self.assertEqual(write_expression(read_expression(sixty)), sixty)
        for rest in ("1))", "(own a)))", "(own A)))", "(", "A", "\"", "-", "(not 1", "nothing"):
            self.wrong(begin + "1 " + rest, len(begin + "1 "))
        # What is no part is wrong for itself.
        self.wrong(begin + "1", len(begin + "1"))
        self.wrong(begin + "1 ", len(begin + "1 "))
        self.wrong(begin + "1)) 1", len(begin + "1)) "))
        # The parts are counted as they begin.
        self.wrong(begin + "(not 1)))", len(begin + "(not "))
        self.wrong(begin + "(not A)))", len(begin + "(not "))
        self.wrong(begin + "(own A)))", len(begin + "(own "))
        self.assertEqual(len(parts(read_expression(begin + "(own a)))"))), 60)


class WrongTest(Case):
    def test_positions(self):
        for text, position in (
                ("", 0), (" \n", 2), ("(", 1), ("( ", 2), ("()", 1), (")", 0), ("(1)", 1), ("(add", 4), ("(add 1", 6),
                ("(add 1 2", 8), ("(add 1 2 ", 9), ("(add 1)", 6), ("(add 1 2 3)", 9), ("(add 1 2) 3", 10), ("1 2", 2),
                ("1)", 1), ("true false", 5), ("(own a))", 7), ("(own a) A", 8), ("a", 0), ("add", 0), ("True", 0),
                ("truee", 0), ("(nothing 1)", 1), ("(Add 1 2)", 1), ("(integer 1)", 1), ("(boolean true)", 1),
                ("(text \"a\")", 1), ("(true)", 1), ("(add 1 b)", 7), ("(add 1 B)", 7), ("(not a)", 5), ("(\"add\" 1 2)", 1),
                ("(if true 1)", 10), ("(if true 1 2 3)", 13), ("(has)", 4), ("(join f a)", 9), ("(join f a b)", 10),
                ("(join f a 1)", 10), ("(before a)", 9), ("(before 1 2)", 8), ("(last f a)", 9), ("(last f 1 a)", 8),
                ("1+", 1), ("(add 1, 2)", 6), ("'a'", 0), ("1 \"", 2), ("(addd 1 2)", 1), ("(add1 2", 7),
                ("{", 0), ("(not\t1)", 4)):
            self.wrong(text, position)

    def test_the_first_of_several(self):
        self.wrong("(add A (B", 5)
        self.wrong("(own abcdefghijklm B", 5)
        self.wrong("(nothing A", 1)

    def test_random_texts(self):
        """What can be read is written as a text that is read as the same; what cannot is wrong at a token or the end."""
        rng = random.Random(1)
        words = ["(", "(", ")", ")", "add", "not", "own", "a", "term", '"t"', "1", "-2", "true", "if", " ", "A", "007", '"']
        good = 0
        for _ in range(4000):
            text = "".join(rng.choice(words) + rng.choice(("", " ")) for _ in range(rng.randint(0, 8)))
            try:
                expression = read_expression(text)
            except BadExpression as error:
                self.assertTrue(0 <= error.position <= len(text))
                self.assertFalse(text[error.position:].startswith((" ", "\n")))
                continue
            good += 1
            self.assertEqual(read_expression(write_expression(expression)), expression)
        self.assertGreater(good, 50)

    def test_random_expressions(self):
        rng = random.Random(2)

        def made(depth):
            expression, _, direct = rng.choice(FORMS)
            if not direct or depth == 0:
                return expression if not direct else ONE
            inner = tuple(made(depth - 1) for _ in direct)
            if expression[0] == "term":
                return expression[:2] + (inner,)
            return expression[:len(expression) - len(direct)] + inner

        for _ in range(500):
            expression = made(3)
            text = write_expression(expression)
            if len(parts(expression)) > 60:
                continue
            self.assertEqual(read_expression(text), expression)
            if '"' not in text:
                self.assertEqual(read_expression(text.replace("(", " ( \n")), expression)


if __name__ == "__main__":
    unittest.main()
