"""The trees of texts (part D)."""

import random
import unittest

from tongues.errors import TooDeep, TooLong
from tongues.grammar import faults
from tongues.languages import Language
from tongues.parsing import Parser
from tongues.trees import problems_of, tree_of
from tests.derivations import Deriver, rows_of
from tests.drawings import BROKEN, WHOLE
from tests.languages import CALCULUS, LETS, OPTIONS, TOKENS, example, language_of
from tests.reference import reference_tree

LANGUAGE = example(LETS)


def drawn(tree):
    """A drawing of a tree, a line for each row."""
    lines, depths = [], []
    for around, field, sort, name, start, stop in tree:
        depths.append(0 if around is None else depths[around] + 1)
        if sort == "missing":
            name = "no " + " ".join(name)
        elif sort == "skipped":
            assert name is None
            name = "skipped"
        elif sort == "token":
            name = repr(name[-1])
        lines.append(f"{'  ' * depths[-1]}{field or '-'} {name} {start}-{stop}")
    return "\n".join(lines)


def broken(rng, language, kinds):
    """Kinds with one to four of them taken out, doubled, moved, put in or replaced."""
    kinds = list(kinds)
    others = [("word", word) for word in language.words] + [("rule", "word"), ("rule", "number"), ("stray",)]
    for _ in range(rng.randint(1, 4)):
        place = rng.randint(0, len(kinds))
        sort = rng.randrange(5)
        if sort == 0:
            del kinds[place:place + 1]
        elif sort == 1:
            kinds[place:place] = kinds[place:place + 1]
        elif sort == 2:
            kinds.insert(place, rng.choice(others))
        elif sort == 3:
            kinds[place:place + 1] = [rng.choice(others)]
        elif kinds:
            kinds.insert(rng.randint(0, len(kinds) - 1), kinds.pop(place - 1))
    return kinds


class ExamplesTest(unittest.TestCase):
    def test_examples_of_the_document(self):
        self.assertEqual(tree_of(LANGUAGE, "show a + b;"), (
            (None, None, "node", "file", 0, 11), (0, "items", "node", "show", 0, 11),
            (1, None, "token", ("word", "show"), 0, 4), (1, "value", "node", "plus", 5, 10),
            (3, "left", "node", "name", 5, 6), (4, "name", "token", ("rule", "word"), 5, 6),
            (3, None, "token", ("word", "+"), 7, 8), (3, "right", "node", "name", 9, 10),
            (7, "name", "token", ("rule", "word"), 9, 10), (1, None, "token", ("word", ";"), 10, 11)))
        self.assertEqual(problems_of(tree_of(LANGUAGE, "show ; let = 1;")),
                         ((4, 4, ("node", "sum")), (10, 10, ("rule", "word"))))
        self.assertEqual(problems_of(tree_of(LANGUAGE, "show 1 2; 3")), ((7, 8, None), (10, 11, None)))
        self.assertEqual(tree_of(LANGUAGE, ""), ((None, None, "node", "file", 0, 0),))

    def test_drawings(self):
        for sections, text, drawing in WHOLE + BROKEN:
            self.assertEqual(drawn(tree_of(example(sections), text)), drawing.strip("\n"), text)
        for sections, text, _ in WHOLE:
            self.assertEqual(problems_of(tree_of(example(sections), text)), ())
        for sections, text, _ in BROKEN:
            self.assertNotEqual(problems_of(tree_of(example(sections), text)), ())

    def test_rows_of_a_broken_text(self):
        self.assertEqual(tree_of(LANGUAGE, " $ let \n = $$"), (
            (None, None, "node", "file", 1, 13), (0, "items", "skipped", None, 1, 2), (0, "items", "node", "let", 3, 13),
            (2, None, "token", ("word", "let"), 3, 6), (2, "name", "missing", ("rule", "word"), 6, 6),
            (2, None, "token", ("word", "="), 9, 10), (2, "value", "skipped", None, 11, 13),
            (2, "value", "missing", ("node", "sum"), 13, 13), (2, None, "missing", ("word", ";"), 13, 13)))

    def test_the_empty_text(self):
        self.assertEqual(tree_of(example(CALCULUS), ""), ((None, None, "missing", ("node", "file"), 0, 0),))
        self.assertEqual(tree_of(example(OPTIONS), " \n"), ((None, None, "node", "body", 0, 0),))
        language = language_of([("node", "a", [("word", "x"), ("token", "word", "f"), ("child", "b", "g")]),
                                ("node", "b", [("word", "y")])], "a")
        self.assertEqual(tree_of(language, ""), ((None, None, "missing", ("node", "a"), 0, 0),))

    def test_skipped_tokens_only(self):
        self.assertEqual(tree_of(example(CALCULUS), "$ ="), (
            (None, None, "skipped", None, 0, 3), (None, None, "missing", ("node", "file"), 3, 3)))

    def test_tokens_that_are_left(self):
        self.assertEqual(tree_of(example(OPTIONS), "1 2 3"), (
            (None, None, "node", "number", 0, 1), (0, "digits", "token", ("rule", "number"), 0, 1),
            (None, None, "skipped", None, 2, 5)))

    def test_problems_of(self):
        self.assertEqual(problems_of(()), ())
        self.assertEqual(problems_of(tree_of(LANGUAGE, "show 1;")), ())
        self.assertEqual(problems_of(tree_of(LANGUAGE, "$ show $ ( ;")), (
            (0, 1, None), (7, 8, None), (10, 10, ("node", "sum")), (10, 10, ("word", ")"))))


class AnchorsTest(unittest.TestCase):
    """What is skipped ends at an anchor; without one it would go on."""

    def problems(self, rules, text):
        rules = [("node", "a", rules[0])] + rules[1:] if isinstance(rules[0], list) else rules
        language = language_of(rules, "a")
        self.assertEqual(faults(language), [])
        tree = tree_of(language, text)
        self.assertEqual(tree, reference_tree(language, text))
        return [(text[start:stop], name and name[1]) for start, stop, name in problems_of(tree)]

    def test_the_later_parts_of_a_node(self):
        begin = [("word", "("), ("word", "x")]
        b = ("node", "b", [("word", "y")])
        for part in (("word", "y"), ("child", "b", "f"), ("maybe", "b", "f"), ("many", "b", "f"), ("many", "b", "f", ",")):
            rules = [begin + [("token", "number", "g"), part, ("word", ")")]] + ([] if part[0] == "word" else [b])
            self.assertEqual(self.problems(rules, "( $ y )"), [("$", None), ("", "x"), ("", "number")])
            self.assertEqual(self.problems(rules, "( y )"), [("", "x"), ("", "number")])
        self.assertEqual(self.problems([begin + [("token", "number", "g")]], "( a 1 x"), [("a", None), ("", "x"), ("x", None)])

    def test_earlier_parts_are_no_anchors(self):
        self.assertEqual(self.problems([[("word", "("), ("word", "x"), ("word", "y"), ("word", ")")]], "( x ( x )"),
                         [("( x", None), ("", "y")])

    def test_the_anchors_of_the_parts_around(self):
        rules = [[("child", "b", "f"), ("maybe", "c", "g"), ("word", "!")], ("node", "b", [("word", "x"), ("word", "y")]),
                 ("node", "c", [("word", "?")])]
        self.assertEqual(self.problems(rules, "x $ ? y !"), [("$", None), ("", "y"), ("y", None)])
        self.assertEqual(self.problems(rules, "x $ ! y"), [("$", None), ("", "y"), ("y", None)])

    def test_a_child_and_its_anchors(self):
        rules = [[("word", "("), ("child", "b", "f"), ("word", ")")], ("node", "b", [("word", "x")])]
        self.assertEqual(self.problems(rules, "( $ x )"), [("$", None)])
        self.assertEqual(self.problems(rules, "( $ ) x"), [("$", None), ("", "b"), ("x", None)])
        self.assertEqual(self.problems(rules, "( $ "), [("$", None), ("", "b"), ("", ")")])

    def test_a_maybe_skips_nothing(self):
        rules = [[("word", "("), ("maybe", "b", "f"), ("word", ")")], ("node", "b", [("word", "x")])]
        self.assertEqual(self.problems(rules, "( $ x )"), [("$ x", None)])

    def test_a_many_without_a_word(self):
        rules = [[("word", "("), ("many", "b", "f"), ("word", ")")], ("node", "b", [("word", "x"), ("word", "y")])]
        self.assertEqual(self.problems(rules, "( $ x $ y $ x x y y )"),
                         [("$", None), ("$", None), ("$", None), ("", "y"), ("y", None)])
        self.assertEqual(self.problems(rules, "( $ ) x y"), [("$", None), ("x y", None)])
        # the first kinds of the rule are anchors within it
        self.assertEqual(self.problems(rules, "( x $ x y )"), [("$", None), ("", "y")])

    def test_a_many_with_a_word(self):
        rules = [[("word", "("), ("many", "b", "f", ","), ("word", ")")], ("node", "b", [("word", "x"), ("token", "word", "g")])]
        self.assertEqual(self.problems(rules, "( x a, x b )"), [])
        # the word is no anchor ahead of the first element, but within and behind it
        self.assertEqual(self.problems(rules, "( , x a )"), [(",", None)])
        self.assertEqual(self.problems(rules, "( x $ , x b )"), [("$", None), ("", "word")])
        self.assertEqual(self.problems(rules, "( x a $ , $ x b )"), [("$", None), ("$", None)])
        self.assertEqual(self.problems(rules, "( x a x b , )"), [("", ","), ("", "b")])
        self.assertEqual(self.problems(rules, "( x a b , x c )"), [("b", None)])
        self.assertEqual(self.problems(rules, "( x x , x c )"), [("", "word"), ("", ","), ("", "word")])

    def test_a_many_at_the_end_takes_the_rest(self):
        rules = [[("word", "("), ("many", "b", "f")], ("node", "b", [("word", "x")])]
        language = language_of([("node", "a", rules[0])] + rules[1:], "a")
        self.assertEqual(tree_of(language, "( x $")[-1], (0, "f", "skipped", None, 4, 5))

    def test_choices_keep_the_anchors(self):
        rules = [[("child", "e", "f"), ("word", "!")], ("choice", "e", ["b", "c"]), ("node", "b", [("word", "x"), ("word", "y")]),
                 ("node", "c", [("word", "z")])]
        self.assertEqual(self.problems(rules, "$ x $ ! y"), [("$", None), ("$", None), ("", "y"), ("y", None)])
        self.assertEqual(self.problems(rules, "$ y z !"), [("$ y", None)])

    def operators(self, way, brackets=True, inner="left"):
        """A node around operators of two levels, the first one of this way."""
        pair = ("(", ")") if brackets else None
        return [[("word", "["), ("child", "e", "f"), ("word", "]")],
                ("operators", "e", "b", [(way, [("+", "p")]), (inner, [("*", "q")])], pair),
                ("node", "b", [("token", "number", "digits"), ("word", "x")])]

    def test_operators_are_anchors_of_their_operands(self):
        for way in ("left", "right", "none", "postfix"):
            tail = "]" if way == "postfix" else "1 x ]"
            self.assertEqual(self.problems(self.operators(way), "[ 1 $ + " + tail), [("$", None), ("", "x")])
            self.assertEqual(self.problems(self.operators(way), "[ 1 $ * 1 x + " + tail), [("$", None), ("", "x")])

    def test_operators_behind_the_operand_of_a_right_one_or_none(self):
        # the anchors of the right operand are those given, without the operators of the level
        self.assertEqual(self.problems(self.operators("none"), "[ 1 x + 1 $ + x ]"), [("$ +", None)])
        self.assertEqual(self.problems(self.operators("left"), "[ 1 x + 1 $ + x ]"),
                         [("$", None), ("", "x"), ("x", None), ("", "b")])
        # the operand of a right one is an expression of the same level, whose own operators are anchors
        self.assertEqual(self.problems(self.operators("right"), "[ 1 x + 1 $ + x ]"),
                         [("$", None), ("", "x"), ("x", None), ("", "b")])

    def test_prefix_operators_are_no_anchors(self):
        self.assertEqual(self.problems(self.operators("prefix"), "[ + 1 $ + x ]"), [("$ +", None)])
        self.assertEqual(self.problems(self.operators("prefix"), "[ + 1 $ * 1 x ]"), [("$", None), ("", "x")])

    def test_close_is_an_anchor_within_brackets(self):
        self.assertEqual(self.problems(self.operators("left"), "[ ( 1 $ ) x ]"), [("$", None), ("", "x"), ("x", None)])
        self.assertEqual(self.problems(self.operators("left"), "[ ( $ ) ]"), [("$", None), ("", "e")])
        self.assertEqual(self.problems(self.operators("left"), "[ 1 $ ) x ]"), [("$ )", None)])

    def test_open_behind_something_that_is_skipped(self):
        # an expression in brackets is begun only where open is the next token
        self.assertEqual(self.problems(self.operators("left"), "[ $ ( 1 x ) ]"), [("$", None)])
        self.assertEqual(self.problems(self.operators("left"), "[ 1 x + $ ( 1 x ) ]"), [("$ (", None), (")", None)])

    def test_close_and_what_it_makes(self):
        language = language_of([("node", "a", self.operators("left")[0])] + self.operators("left")[1:], "a")
        self.assertEqual([row[:4] for row in tree_of(language, "[ ( 1 x $ ) ]")][2:], [
            (0, "f", "node", "e"), (2, None, "token", ("word", "(")), (2, "inside", "node", "b"),
            (4, "digits", "token", ("rule", "number")), (4, None, "token", ("word", "x")), (2, None, "skipped", None),
            (2, None, "token", ("word", ")")), (0, None, "token", ("word", "]"))])
        self.assertEqual([row[:4] for row in tree_of(language, "[ ( 1 x ]")][-2:], [
            (2, None, "missing", ("word", ")")), (0, None, "token", ("word", "]"))])

    def test_what_an_operand_makes_has_its_field(self):
        language = language_of([("node", "a", self.operators("left")[0])] + self.operators("left")[1:], "a")
        rows = tree_of(language, "[ * + $ 1 x ]")
        self.assertEqual([row[:4] for row in rows if row[1] in ("f", "left", "right")], [
            (0, "f", "skipped", None), (0, "f", "node", "b")])
        rows = tree_of(language, "[ 1 x + $ 1 x + ]")
        self.assertEqual([row[1:4] for row in rows if row[1] in ("f", "left", "right")], [
            ("f", "node", "p"), ("left", "node", "p"), ("left", "node", "b"), ("right", "skipped", None),
            ("right", "node", "b"), ("right", "missing", ("node", "b"))])


class ManyTextsTest(unittest.TestCase):
    LANGUAGES = [example(sections) for sections in (LETS, CALCULUS, OPTIONS)]

    def texts(self, seed, many):
        rng = random.Random(seed)
        for language in self.LANGUAGES:
            self.assertEqual(faults(language), [])
            deriver = Deriver(language, rng)
            for _ in range(many):
                tree = deriver.sentence()
                kinds = deriver.kinds()
                if len(kinds) < 100:
                    yield language, deriver, tree, kinds

    def test_the_tree_of_a_sentence(self):
        for language, deriver, tree, kinds in self.texts(11, 200):
            text, stretches = deriver.text(kinds)
            self.assertEqual(tree_of(language, text), rows_of(tree, stretches), text)

    def test_broken_texts(self):
        rng = random.Random(12)
        for language, deriver, _, kinds in self.texts(13, 150):
            text, stretches = deriver.text(broken(rng, language, kinds))
            tree = tree_of(language, text)
            self.assertEqual(tree, reference_tree(language, text), text)
            self.check_rows(tree, text, stretches)

    def check_rows(self, tree, text, stretches):
        """Each token stands in one row, in order, and each node is as long as what is in it."""
        taken = [(start, stop) for _, _, sort, _, start, stop in tree if sort in ("token", "skipped")]
        self.assertEqual(taken, sorted(taken))
        covered = [stretch for stretch in stretches if any(start <= stretch[0] and stretch[1] <= stop for start, stop in taken)]
        self.assertEqual(covered, stretches)
        for number, (around, _, _, _, start, stop) in enumerate(tree):
            self.assertTrue(around is None or around < number)
            self.assertTrue(0 <= start <= stop <= len(text))


class LimitsTest(unittest.TestCase):
    def test_characters(self):
        self.assertEqual(tree_of(LANGUAGE, " " * 600), ((None, None, "node", "file", 0, 0),))
        self.assertEqual(len(tree_of(LANGUAGE, "show " + "a" * 594 + ";")), 6)
        for text in (" " * 601, "show " + "a" * 595 + ";", "$" * 601):
            with self.assertRaises(TooLong):
                tree_of(LANGUAGE, text)

    def test_tokens(self):
        self.assertEqual(tree_of(LANGUAGE, "$" * 200)[1], (0, "items", "skipped", None, 0, 200))
        self.assertEqual(len(tree_of(LANGUAGE, "; " * 200)), 2)
        self.assertEqual(len(problems_of(tree_of(LANGUAGE, "show 1;" * 66 + "let x"))), 3)
        for text in ("$" * 201, "; " * 201, "show 1;" * 67):
            with self.assertRaises(TooLong):
                tree_of(LANGUAGE, text)

    def nested(self, around=()):
        """A node within itself, and how it is reached from start."""
        return language_of(list(around) + [("node", "n", [("word", "("), ("maybe", "n", "inner"), ("word", ")")])],
                           around[0][1] if around else "n")

    def test_entered_nodes(self):
        self.assertEqual(len(tree_of(self.nested(), "(" * 24 + ")" * 24)), 72)
        self.assertEqual(len(problems_of(tree_of(self.nested(), "(" * 24))), 24)
        for text in ("(" * 25 + ")" * 25, "(" * 25):
            with self.assertRaises(TooDeep):
                tree_of(self.nested(), text)

    def test_entered_rules_that_are_finished_do_not_count(self):
        language = language_of([("node", "a", [("many", "n", "f")]), ("node", "n", [("word", "x")])], "a")
        self.assertEqual(len(tree_of(language, "x " * 100)), 201)

    def test_entered_choices_and_operators(self):
        choice = self.nested([("choice", "a", ["n"])])
        tree_of(choice, "(" * 23)
        with self.assertRaises(TooDeep):
            tree_of(choice, "(" * 24)
        operators = language_of([("operators", "a", "n", [("left", [("+", "p")])] + [
            ("left", [(sign, "p" + letter)]) for sign, letter in zip("-*/&|=<", "abcdefg")], ("(", ")")),
            ("node", "n", [("word", "x")])], "a")
        # start and each inner expression in brackets is entered as a rule, its levels are not; so is the base
        tree_of(operators, "(" * 22 + "x" + ")" * 22)
        tree_of(operators, "(" * 23 + ")" * 23)
        for text in ("(" * 23 + "x" + ")" * 23, "(" * 24 + "x"):
            with self.assertRaises(TooDeep):
                tree_of(operators, text)

    def test_rows_within_one_another(self):
        for text in ("show " + "-" * 96 + "1;", "show " + "1+" * 96 + "1;"):
            tree = tree_of(LANGUAGE, text)
            self.assertEqual(self.deepest(tree), 100)
            self.assertEqual(problems_of(tree), ())
        for text in ("show " + "-" * 97 + "1;", "show " + "1+" * 97 + "1;", "show " + "-" * 190):
            with self.assertRaises(TooDeep):
                tree_of(LANGUAGE, text)

    def test_rows_of_operators_of_each_way(self):
        for way, text in (("right", "1" + "^1" * 97), ("postfix", "1" + "^" * 97), ("left", "1" + "^1" * 97),
                          ("prefix", "^" * 97 + "1")):
            language = language_of([("node", "a", [("child", "e", "f")]), ("operators", "e", "n", [(way, [("^", "p")])]),
                                    ("node", "n", [("token", "number", "digits")])], "a", tokens=[("number", "1")])
            self.assertEqual(self.deepest(tree_of(language, text)), 100)
            longer = "^" + text if way == "prefix" else text + text[1:3] if way != "postfix" else text + "^"
            with self.assertRaises(TooDeep):
                tree_of(language, longer)

    def test_many_right_operators(self):
        language = language_of([("operators", "e", "n", [("right", [("^", "p")])]),
                                ("node", "n", [("token", "number", "digits")])], "e", tokens=[("number", "1")])
        self.assertEqual(self.deepest(tree_of(language, "1" + "^1" * 98)), 100)
        # a hundred nodes around something that is missing
        with self.assertRaises(TooDeep):
            tree_of(language, "1^" * 100)
        with self.assertRaises(TooDeep):
            tree_of(language, "1^" * 99 + "1")

    def test_many_prefix_operators_ahead_of_nothing(self):
        language = language_of([("operators", "e", "n", [("prefix", [("^", "p")])]),
                                ("node", "n", [("token", "number", "digits")])], "e", tokens=[("number", "1")])
        self.assertEqual(self.deepest(tree_of(language, "^" * 99)), 100)
        with self.assertRaises(TooDeep):
            tree_of(language, "^" * 100)
        # not even a row of many more tokens makes calls that are nested too deep for Python
        with self.assertRaises(TooDeep):
            Parser(language, [(("word", "^"), at, at + 1, "main", at + 2) for at in range(2000)]).whole("e")

    def test_operations_that_are_finished_do_not_count(self):
        text = ("show " + "-" * 60 + "1;") * 3
        self.assertEqual(problems_of(tree_of(LANGUAGE, text)), ())

    def deepest(self, tree):
        depths = []
        for row in tree:
            depths.append(1 if row[0] is None else depths[row[0]] + 1)
        return max(depths)

    def test_which_error_comes(self):
        for text in ("show " + "-" * 199 + "1", "-" * 601, "show " + "(" * 196 + "1" + ")" * 4, "(" * 30 + " " * 600):
            with self.assertRaises(TooLong):
                tree_of(LANGUAGE, text)
        with self.assertRaises(TooDeep):
            tree_of(LANGUAGE, "show " + "(" * 195)

    def test_the_text_of_a_language_with_modes(self):
        language = Language({
            "modes": ["main", "inner"],
            "tokens": TOKENS + [("begin", "'", None, "inner"), ("part", "[^']+", "inner"), ("stop", "'", "inner", "main")],
            "rules": [("node", "a", [("many", "q", "quotes")]),
                      ("node", "q", [("token", "begin", "begin"), ("token", "part", "text"), ("token", "stop", "stop")])],
            "start": "a"})
        self.assertEqual(tree_of(language, "'a b' ''"), (
            (None, None, "node", "a", 0, 8), (0, "quotes", "node", "q", 0, 5), (1, "begin", "token", ("rule", "begin"), 0, 1),
            (1, "text", "token", ("rule", "part"), 1, 4), (1, "stop", "token", ("rule", "stop"), 4, 5),
            (0, "quotes", "node", "q", 6, 8), (5, "begin", "token", ("rule", "begin"), 6, 7),
            (5, "text", "missing", ("rule", "part"), 7, 7), (5, "stop", "token", ("rule", "stop"), 7, 8)))


if __name__ == "__main__":
    unittest.main()
