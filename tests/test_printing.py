"""Writing back ([F1], [F4], [F5])."""

import random
import unittest

from tongues.errors import TongueError, TooDeep, TooLong
from tongues.grammar import faults
from tongues.languages import Language
from tongues.places import place_of
from tongues.printing import (NoBrackets, NoElement, NoList, NoNode, NotWhole, NotWritable, gaps_for, insert_element,
                              remove_element, replace_node)
from tongues.texts import apply_change
from tongues.trees import tree_of
from tests import slowprinting
from tests.derivations import Deriver
from tests.languages import CALCULUS, LETS, OPTIONS, example, language_of, sections_of
from tests.raising import raised

LANGUAGE = example(LETS)
FORMULAS = example(CALCULUS)
BODIES = example(OPTIONS)

# Words that run into each other, brackets that make a longer word with what stands in them.
NARROW = language_of([
    ("node", "file", [("many", "line", "lines")]),
    ("node", "line", [("word", "if"), ("child", "sum", "test"), ("word", "then"), ("child", "sum", "value")]),
    ("operators", "sum", "atom", [("left", [("+", "plus")]), ("left", [("*", "times")])], ("<", ">")),
    ("choice", "atom", ["name", "dash", "lot"]), ("node", "name", [("token", "word", "name")]),
    ("node", "dash", [("word", "-")]), ("node", "lot", [("word", "<->"), ("word", "++")])], "file")
# A text in quotation marks is read in a mode of its own; what is in it is no blank.
MODES = Language({
    "modes": ["main", "text"],
    "tokens": [("word", "[a-z]+"), ("blank", "[ \n]+", None, None, True), ("begin", "\"", None, "text"),
               ("end", "\"", "text", "main"), ("stuff", "[^\"]+", "text"), ("shut", "!", None, "text")],
    "rules": [("node", "file", [("many", "item", "items")]), ("choice", "item", ["name", "quote", "stop"]),
              ("node", "name", [("token", "word", "name")]),
              ("node", "quote", [("token", "begin", "begin"), ("maybe", "stuff", "stuff"), ("token", "end", "end")]),
              ("node", "stuff", [("token", "stuff", "stuff")]), ("node", "stop", [("token", "shut", "shut")])],
    "start": "file"})
# No token is skipped here.
TIGHT = Language({
    "tokens": [("word", "[a-z]+"), ("number", "[0-9]+")],
    "rules": [("node", "file", [("many", "item", "items", ",")]), ("choice", "item", ["name", "number", "pair"]),
              ("node", "name", [("token", "word", "name")]), ("node", "number", [("token", "number", "digits")]),
              ("node", "pair", [("word", "("), ("child", "item", "first"), ("child", "item", "second"), ("word", ")")])],
    "start": "file"})
# Skipped tokens that eat what stands ahead of them, so that a comment is none.
SHIFTED = Language({
    "tokens": [("ex", "x"), ("oh", "o"), ("eaten", "x#", None, None, True), ("comment", "#\\[x\\]", None, None, True),
               ("bracket", "[\\[\\] ]", None, None, True)],
    "rules": [("node", "file", [("many", "item", "items")]), ("choice", "item", ["exes", "ohs"]),
              ("node", "exes", [("token", "ex", "ex")]), ("node", "ohs", [("token", "oh", "oh")])],
    "start": "file"})
EATING = Language({
    "tokens": [("ex", "x"), ("oh", "o"), ("eaten", "~#|\\]x", None, None, True),
               ("comment", "#\\[x\\]", None, None, True), ("bracket", "[\\[~ ]", None, None, True)],
    "rules": SHIFTED.rules, "start": "file"})


def rows_of(language, text, name):
    """The numbers of the rows of the nodes of a name."""
    return [number for number, row in enumerate(tree_of(language, text)) if row[2:4] == ("node", name)]


class Case(unittest.TestCase):
    def replaced(self, language, text, name, expression, number=0):
        """The new text, the number of gaps, and whether there are brackets."""
        row = rows_of(language, text, name)[number]
        change, gaps, is_bracketed = replace_node(language, text, row, expression)
        self.check(text, change)
        self.assertEqual(change[0][:2], tree_of(language, text)[row][4:])
        return (apply_change(text, change), gaps, is_bracketed)

    def inserted(self, language, text, name, field, index, element, blank=" ", number=0):
        change, gaps = insert_element(language, text, rows_of(language, text, name)[number], field, index, element, blank)
        self.check(text, change)
        return (apply_change(text, change), gaps)

    def removed(self, language, text, name, number=0):
        change, gaps = remove_element(language, text, rows_of(language, text, name)[number])
        self.check(text, change)
        return (apply_change(text, change), gaps)

    def check(self, text, change):
        self.assertIsInstance(change, tuple)
        self.assertEqual(len(change), 1)
        self.assertIsInstance(change[0], tuple)
        self.assertTrue(0 <= change[0][0] <= change[0][1] <= len(text))


class LanguagesTest(unittest.TestCase):
    def test_the_languages_have_no_faults(self):
        for language in (NARROW, MODES, TIGHT, SHIFTED, EATING):
            self.assertEqual(faults(language), [])

    def test_errors_are_own_ones(self):
        for error in (NoNode, NoList, NoElement, NotWritable, NotWhole, NoBrackets):
            self.assertEqual(error.__bases__, (TongueError,))


class ReplaceTest(Case):
    def test_at_the_beginning_in_the_middle_and_at_the_end(self):
        text = "show 1; let x = 2;\nshow 3;"
        self.assertEqual(replace_node(LANGUAGE, text, 1, "let y = 4 ;"), (((0, 7, "let y = 4 ;"),), 0, False))
        self.assertEqual(self.replaced(LANGUAGE, text, "show", "let y = 4 ;"),
                         ("let y = 4 ; let x = 2;\nshow 3;", 0, False))
        self.assertEqual(self.replaced(LANGUAGE, text, "number", "a + b", 1), ("show 1; let x = a + b;\nshow 3;", 0, False))
        self.assertEqual(self.replaced(LANGUAGE, text, "let", "show 2;"), ("show 1; show 2;\nshow 3;", 0, False))
        self.assertEqual(self.replaced(LANGUAGE, text, "show", "show -3;", 1), ("show 1; let x = 2;\nshow -3;", 0, False))
        self.assertEqual(self.replaced(LANGUAGE, text, "file", "show 9;"), ("show 9;", 0, False))
        self.assertEqual(self.replaced(LANGUAGE, text, "file", ""), ("", 0, False))
        self.assertEqual(self.replaced(LANGUAGE, " " + text + " ", "file", " \n"), ("  \n ", 0, False))

    def test_a_node_may_be_replaced_by_itself(self):
        self.assertEqual(replace_node(LANGUAGE, "show 1 + 2;", 3, "1 + 2"), (((5, 10, "1 + 2"),), 0, False))

    def test_brackets(self):
        text = "show a + b;"
        self.assertEqual(self.replaced(LANGUAGE, text, "name", "c + d"), ("show c + d + b;", 0, False))
        self.assertEqual(self.replaced(LANGUAGE, text, "name", "c + d", 1), ("show a + (c + d);", 0, True))
        self.assertEqual(self.replaced(LANGUAGE, text, "name", "-c", 1), ("show a + -c;", 0, False))
        self.assertEqual(self.replaced(LANGUAGE, text, "name", "(c + d)", 1), ("show a + (c + d);", 0, False))
        self.assertEqual(self.replaced(LANGUAGE, "show -(b);", "sum", "c + d"), ("show -(c + d);", 0, True))
        self.assertEqual(self.replaced(LANGUAGE, "show -(b);", "name", "c + d"), ("show -(c + d);", 0, False))
        self.assertEqual(self.replaced(LANGUAGE, "show (b);", "sum", "c + d"), ("show c + d;", 0, False))

    def test_what_is_in_brackets_has_its_own_places(self):
        self.assertEqual(self.replaced(FORMULAS, "a ^ b", "call", "c ^ d"), ("(c ^ d) ^ b", 0, True))
        self.assertEqual(self.replaced(FORMULAS, "a ^ b", "call", "c ^ d", 1), ("a ^ c ^ d", 0, False))
        self.assertEqual(self.replaced(FORMULAS, "a < b", "call", "c = d", 1), ("a < (c = d)", 0, True))
        self.assertEqual(self.replaced(FORMULAS, "a[b]", "call", "not c", 1), ("a[not c]", 0, False))

    def test_a_gap_ahead_behind_and_at_both(self):
        text = "if<a>then<b>"
        self.assertEqual(self.replaced(NARROW, text, "sum", "c"), ("if c then<b>", 2, False))
        self.assertEqual(self.replaced(NARROW, text, "sum", "<c>+d"), ("if<c>+d then<b>", 1, False))
        self.assertEqual(self.replaced(NARROW, text, "sum", "d+<c>"), ("if d+<c>then<b>", 1, False))
        self.assertEqual(self.replaced(NARROW, text, "sum", "c", 1), ("if<a>then c", 1, False))
        self.assertEqual(self.replaced(NARROW, text, "sum", " c ", 0), ("if c then<b>", 0, False))

    def test_the_gaps_belong_to_the_change(self):
        self.assertEqual(replace_node(NARROW, "if<a>then<b>", 3, "c"), (((2, 5, " c "),), 2, False))

    def test_gaps_within_brackets(self):
        # With a longer word out of open, expression and close.
        language = language_of([
            ("operators", "sum", "atom", [("left", [("+", "plus")]), ("prefix", [("-", "minus")])], ("<", ">")),
            ("choice", "atom", ["name", "odd"]), ("node", "name", [("token", "word", "name")]),
            ("node", "odd", [("word", "<-"), ("word", "a>"), ("word", "<-a+b>")])], "sum")
        self.assertEqual(faults(language), [])
        self.assertEqual(self.replaced(language, "-c", "name", "-a+b"), ("-< -a+b>", 1, True))
        self.assertEqual(self.replaced(language, "-c", "name", "b+a"), ("-<b+a >", 1, True))
        self.assertEqual(self.replaced(language, "-c", "name", "-b+a"), ("-< -b+a >", 2, True))

    def test_the_first_set_of_one_size_is_taken(self):
        def language(word):
            made = language_of([
                ("operators", "sum", "atom", [("left", [("+", "plus")]), ("left", [("*", "times")])], ("<", ">")),
                ("choice", "atom", ["name", "odd"]), ("node", "name", [("token", "word", "name")]),
                ("node", "odd", [("word", word), ("word", "$")])], "sum")
            self.assertEqual(faults(made), [])
            return made

        # A gap at any place but the last one would do, then at any one but the first one.
        self.assertEqual(self.replaced(language("*<a+b>"), "c*d", "name", "a+b", 1), ("c* <a+b>", 1, True))
        self.assertEqual(self.replaced(language("<a+b>*"), "e*d*c", "name", "a+b", 1), ("e*< a+b>*c", 1, True))
        self.assertEqual(self.replaced(language("<a+b>"), "e*d*c", "name", "a+b", 1), ("e*< a+b>*c", 1, True))
        # Of the sets of two places with which it is written, that of 0 and 1 is the first one.
        self.assertEqual(self.replaced(language("*<"), "e*d*c", "name", "a+b", 1), ("e* <a+b>*c", 1, True))

    def test_broken_texts_stay_broken_alike(self):
        self.assertEqual(self.replaced(LANGUAGE, "$ show 1 2; let = 3", "number", "a"), ("$ show a 2; let = 3", 0, False))
        self.assertEqual(self.replaced(LANGUAGE, "$ show 1 2; let = 3", "show", "show 5;"),
                         ("$ show 5; let = 3", 0, False))
        self.assertEqual(self.replaced(LANGUAGE, "$ show 1", "file", "show 1;"), ("show 1;", 0, False))
        self.assertEqual(self.replaced(LANGUAGE, "$ $", "file", "show 1;"), ("show 1;", 0, False))

    def test_another_tree_comes_out(self):
        # The skipped tokens would be arguments of the name.
        self.assertEqual(tree_of(FORMULAS, "1 [2]")[3][2], "skipped")
        with self.assertRaises(NotWritable):
            replace_node(FORMULAS, "1 [2]", 1, "a")
        self.assertEqual(self.replaced(FORMULAS, "1 [2]", "number", "a[3]"), ("a[3] [2]", 0, False))
        # What was skipped in the node would be gone, and so it is: the wanted tree does not have it.
        self.assertEqual(self.replaced(LANGUAGE, "show 1 $;", "show", "show 2;"), ("show 2;", 0, False))

    def test_a_mode_comes_out(self):
        with self.assertRaises(NotWritable):
            replace_node(MODES, "a b c", 3, "!")
        self.assertEqual(self.replaced(MODES, "a b c", "name", "\"b\"", 1), ("a \"b\" c", 0, False))
        self.assertEqual(self.replaced(MODES, "a b", "name", "!", 1), ("a !", 0, False))

    def test_the_mode_in_which_the_node_begins(self):
        text = "a\"bc\""
        self.assertEqual(self.replaced(MODES, text, "stuff", "d e"), ("a\"d e\"", 0, False))
        self.assertEqual(raised(replace_node, MODES, text, rows_of(MODES, text, "stuff")[0], ""),
                         ("NotWhole", {"rule": "stuff"}))
        self.assertEqual(self.replaced(MODES, "a\"\"", "quote", "\"d e\""), ("a\"d e\"", 0, False))

    def test_a_longer_token_comes_out(self):
        self.assertEqual(self.replaced(TIGHT, "(a1)", "number", "(2b)"), ("(a(2b))", 0, False))
        for name, put in (("number", "b"), ("name", "2")):
            with self.assertRaises(NotWritable):
                self.replaced(TIGHT, "(a1)", name, put)

    def test_no_node(self):
        text = "show 1 ; let $ = "
        for row, one in enumerate(tree_of(LANGUAGE, text)):
            if one[2] != "node" or one[4] == one[5]:
                self.assertEqual(raised(replace_node, LANGUAGE, text, row, "1"), ("NoNode", {}))
        for row in (-1, len(tree_of(LANGUAGE, text)), 99):
            self.assertEqual(raised(replace_node, LANGUAGE, text, row, "1"), ("NoNode", {}))
        self.assertEqual(raised(replace_node, LANGUAGE, "", 0, "show 1;"), ("NoNode", {}))
        self.assertEqual(raised(replace_node, BODIES, " \n", 0, "1"), ("NoNode", {}))

    def test_not_whole(self):
        text = "show 1 + 2;"
        row = rows_of(LANGUAGE, text, "number")[0]
        for expression in ("", " ", "1 +", "1 2", "$", "show 1;", "1;", "$ 1", "1 $", "(1", ")", "let"):
            self.assertEqual(raised(replace_node, LANGUAGE, text, row, expression), ("NotWhole", {"rule": "sum"}))
        for expression in ("1", "", "show 1", "show 1; show 2;", "let x = ;"):
            self.assertEqual(raised(replace_node, LANGUAGE, text, 1, expression), ("NotWhole", {"rule": "item"}))
        self.assertEqual(raised(replace_node, LANGUAGE, text, 0, "1"), ("NotWhole", {"rule": "file"}))
        self.assertEqual(raised(replace_node, BODIES, "1", 0, "a"), ("NotWhole", {"rule": "begin"}))

    def test_no_brackets(self):
        text = "{x: 1 * 2#}"
        self.assertEqual(raised(replace_node, FORMULAS, text, rows_of(FORMULAS, text, "plain")[1], "3 * 4"),
                         ("NoBrackets", {"rule": "bare"}))
        self.assertEqual(self.replaced(FORMULAS, text, "plain", "3 * 4"), ("{x: 3 * 4 * 2#}", 0, False))
        self.assertEqual(raised(replace_node, FORMULAS, "{x: 1 * 2}", rows_of(FORMULAS, "{x: 1 * 2}", "plain")[0], "3#"),
                         ("NoBrackets", {"rule": "bare"}))

    def test_too_long(self):
        text = "show 1;"
        self.assertEqual(len(self.replaced(LANGUAGE, text, "number", "1" * 594)[0]), 600)
        for expression in ("1" * 595, "1" * 600, "1" * 601):
            with self.assertRaises(TooLong):
                replace_node(LANGUAGE, text, 3, expression)
        # An expression of 2 * many + 2 tokens; the new text has two tokens more.
        for many, error in ((98, None), (99, ("TooLong", {})), (100, ("TooLong", {}))):
            self.assertEqual(raised(replace_node, FORMULAS, "1, 2", 1, f"f[{';'.join(['1'] * many)}]"), error)
        # With 200 tokens the expression itself is not too long, so that it is told what else is wrong with it.
        for many, error in ((99, "NotWhole"), (100, "TooLong")):
            self.assertEqual(raised(replace_node, FORMULAS, "1, 2", 1, f"f[{';'.join(['1'] * many)};")[0], error)

    def test_which_error_comes_first(self):
        long_text = "show " + "1" * 596 + ";"
        self.assertEqual(raised(replace_node, LANGUAGE, long_text, 99, ""), ("TooLong", {}))
        self.assertEqual(raised(replace_node, LANGUAGE, "show " + "(" * 24, 99, " " * 601), ("TooDeep", {}))
        self.assertEqual(raised(replace_node, LANGUAGE, "show 1;", 99, " " * 601), ("TooLong", {}))
        self.assertEqual(raised(replace_node, LANGUAGE, "show 1;", 99, "$ " * 201), ("TooLong", {}))
        self.assertEqual(raised(replace_node, LANGUAGE, "show 1;", 99, "$ " * 200), ("NoNode", {}))
        self.assertEqual(raised(replace_node, LANGUAGE, "show 1;", 3, "$ " * 200), ("NotWhole", {"rule": "sum"}))
        # Not whole, and its node would not fit.
        row = rows_of(FORMULAS, "{x: 1 * 2}", "plain")[1]
        self.assertEqual(raised(replace_node, FORMULAS, "{x: 1 * 2}", row, "3 * 4 *"), ("NotWhole", {"rule": "bare"}))
        self.assertEqual(raised(replace_node, FORMULAS, "{x: 1 * 2}", row, "3 * 4"), ("NoBrackets", {"rule": "bare"}))

    def test_an_expression_is_measured_from_the_first_mode(self):
        # In its mode the expression is one token.
        text = "\"b\""
        row = rows_of(MODES, text, "stuff")[0]
        self.assertEqual(raised(replace_node, MODES, text, row, "a." * 101), ("TooLong", {}))
        self.assertEqual(raised(replace_node, MODES, text, row, "a." * 100), None)

    def test_how_many_tokens_an_expression_has_in_its_mode_is_not_limited(self):
        # From the first mode it is one token, in its own mode one each; then the new text is too long.
        language = Language({
            "modes": ["main", "other"],
            "tokens": [("row", "[a-z]+"), ("go", "!", None, "other"), ("one", "[a-z]", "other")],
            "rules": [("node", "file", [("word", "?"), ("maybe", "ones", "ones")]),
                      ("node", "ones", [("token", "go", "go"), ("many", "one", "each")]),
                      ("node", "one", [("token", "one", "one")])], "start": "file"})
        self.assertEqual(faults(language), [])
        self.assertEqual(raised(replace_node, language, "?!a", 3 + 1, "b" * 201), ("NotWhole", {"rule": "one"}))
        self.assertEqual(raised(insert_element, language, "?!a", 2, "each", 0, "b", ""), None)

    def test_too_deep(self):
        text = "show -1;"
        row = rows_of(LANGUAGE, text, "number")[0]
        # Around the number stand the file, the show and the minus; below it a token.
        self.assertEqual(raised(replace_node, LANGUAGE, text, row, "-" * 95 + "1"), None)
        self.assertEqual(raised(replace_node, LANGUAGE, text, row, "-" * 96 + "1"), ("TooDeep", {}))
        # As an expression by itself it is too deep, ahead of not being whole.
        self.assertEqual(raised(replace_node, LANGUAGE, text, row, "-" * 99 + "1 2"), ("TooDeep", {}))
        self.assertEqual(raised(replace_node, LANGUAGE, text, row, "-" * 98 + "1 2"), ("NotWhole", {"rule": "sum"}))
        self.assertEqual(raised(replace_node, LANGUAGE, text, row, "(" * 30 + "1 2"), ("TooDeep", {}))

    def test_too_many_rules_in_the_new_text(self):
        text = "show 1;"
        inner = "(" * 22 + "1" + ")" * 22
        # File, item and show, then 20 sums, atom and number.
        self.assertEqual(raised(tree_of, LANGUAGE, f"show {'(' * 18}1{')' * 18};"), None)
        self.assertEqual(raised(tree_of, LANGUAGE, f"show {'(' * 19}1{')' * 19};"), ("TooDeep", {}))
        self.assertEqual(raised(replace_node, LANGUAGE, text, 3, "(" * 18 + "1" + ")" * 18), None)
        self.assertEqual(raised(replace_node, LANGUAGE, text, 3, "(" * 19 + "1" + ")" * 19), ("TooDeep", {}))
        self.assertEqual(raised(replace_node, LANGUAGE, text, 3, inner + ")"), ("TooDeep", {}))
        self.assertEqual(raised(replace_node, LANGUAGE, text, 3, inner[1:-1] + ")"), ("NotWhole", {"rule": "sum"}))


class InsertTest(Case):
    def test_without_a_word_between(self):
        text = "show 1; show 2;"
        self.assertEqual(insert_element(LANGUAGE, text, 0, "items", 0, "show 0;", " "), (((0, 0, "show 0; "),), 0))
        self.assertEqual(self.inserted(LANGUAGE, text, "file", "items", 0, "show 0;"), ("show 0; show 1; show 2;", 0))
        self.assertEqual(self.inserted(LANGUAGE, text, "file", "items", 1, "show 0;", "\n"),
                         ("show 1; show 0;\nshow 2;", 0))
        self.assertEqual(self.inserted(LANGUAGE, text, "file", "items", 2, "show 0;", "\n"),
                         ("show 1; show 2;\nshow 0;", 0))
        self.assertEqual(self.inserted(LANGUAGE, text, "file", "items", 2, "show 0;", ""), ("show 1; show 2;show 0;", 0))

    def test_with_a_word_between(self):
        text = "f[1; 2]"
        self.assertEqual(insert_element(FORMULAS, text, 3, "each", 0, "a", " "), (((2, 2, "a; "),), 0))
        self.assertEqual(self.inserted(FORMULAS, text, "arguments", "each", 0, "a"), ("f[a; 1; 2]", 0))
        self.assertEqual(self.inserted(FORMULAS, text, "arguments", "each", 1, "a + b", ""), ("f[1; a + b;2]", 0))
        self.assertEqual(self.inserted(FORMULAS, text, "arguments", "each", 2, "a", "\n"), ("f[1; 2;\na]", 0))
        self.assertEqual(insert_element(FORMULAS, text, 3, "each", 2, "a", " "), (((6, 6, "; a"),), 0))
        self.assertEqual(self.inserted(FORMULAS, "f[1]", "arguments", "each", 1, "a", ""), ("f[1;a]", 0))
        self.assertEqual(self.inserted(FORMULAS, "f[1]", "arguments", "each", 0, "a", ""), ("f[a;1]", 0))

    def test_a_list_without_anything(self):
        self.assertEqual(self.inserted(LANGUAGE, "", "file", "items", 0, "show 0;", "\n"), ("show 0;\n", 0))
        self.assertEqual(self.inserted(LANGUAGE, " \n", "file", "items", 0, "show 0;", " "), ("show 0;  \n", 0))
        self.assertEqual(self.inserted(LANGUAGE, " \n", "file", "items", 0, "show 0;", ""), ("show 0; \n", 0))
        self.assertEqual(self.inserted(FORMULAS, "f[]", "arguments", "each", 0, "a", ""), ("f[a]", 0))
        self.assertEqual(self.inserted(FORMULAS, "f[ ]", "arguments", "each", 0, "a", " "), ("f[ a ]", 0))
        self.assertEqual(self.inserted(FORMULAS, "1", "file", "rest", 0, ", a", "\n"), ("1\n, a", 0))
        self.assertEqual(self.inserted(FORMULAS, "f[1] , 2", "file", "rest", 0, ", a", ""), ("f[1] , a, 2", 0))
        self.assertEqual(self.inserted(BODIES, "head a  foot", "body", "lines", 0, "b :", " "), ("head a b :  foot", 0))
        self.assertEqual(self.inserted(BODIES, "foot", "body", "lines", 0, "b :", " "), ("b : foot", 0))
        self.assertEqual(self.inserted(BODIES, "foot", "body", "lines", 0, "b :", ""), ("b :foot", 0))
        self.assertEqual(self.inserted(BODIES, "", "body", "lines", 0, "b :", ""), ("b :", 0))

    def test_a_list_with_skipped_tokens_alone(self):
        # What the part skipped itself stands behind the element.
        self.assertEqual(tree_of(LANGUAGE, " $ ")[1][1:3], ("items", "skipped"))
        self.assertEqual(self.inserted(LANGUAGE, " $ ", "file", "items", 0, "show 0;"), ("show 0;  $ ", 0))
        self.assertEqual(self.inserted(FORMULAS, "f[$ $]", "arguments", "each", 0, "a", ""), ("f[a$ $]", 0))
        # What an earlier part skipped stands ahead of it.
        self.assertEqual(self.inserted(FORMULAS, "$ 1", "file", "rest", 0, ", a", ""), ("$ 1, a", 0))

    def test_rows_ahead_of_the_list_may_stand_in_other_nodes(self):
        self.assertEqual(self.inserted(BODIES, "a : b : + 1", "line", "digits", 0, "+ 2"), ("a : + 2 b : + 1", 0))
        self.assertEqual(self.inserted(BODIES, "a : b : + 1", "line", "digits", 1, "+ 2", "", 1), ("a : b : + 1,+ 2", 0))
        self.assertEqual(self.inserted(BODIES, "a b :", "line", "digits", 0, "+ 2"), ("a + 2 b :", 0))

    def test_gaps(self):
        self.assertEqual(self.inserted(BODIES, "a:+1,+2", "body", "lines", 1, "b:+3", ""), ("a:+1,+2b:+3", 0))
        self.assertEqual(self.inserted(MODES, "a", "file", "items", 0, "b", ""), ("b a", 1))
        self.assertEqual(self.inserted(MODES, "a", "file", "items", 1, "b", ""), ("a b", 1))
        self.assertEqual(self.inserted(MODES, "a c", "file", "items", 1, "b", ""), ("a b c", 1))
        self.assertEqual(self.inserted(MODES, "\"a\"c", "file", "items", 1, "b", ""), ("\"a\"b c", 1))
        self.assertEqual(self.inserted(NARROW, "if<a>then<b>", "file", "lines", 0, "if<c>then d", ""),
                         ("if<c>then d if<a>then<b>", 1))

    def test_the_gap_stands_at_the_first_place_that_will_do(self):
        # With an empty blank it could stand ahead of the blank or behind it; the text is the same.
        self.assertEqual(insert_element(MODES, "a", 0, "items", 1, "b", ""), (((1, 1, " b"),), 1))
        self.assertEqual(insert_element(MODES, "a", 0, "items", 0, "b", ""), (((0, 0, "b "),), 1))

    def test_a_blank_that_is_no_blank(self):
        for blank in ("$", "x", ";"):
            self.assertEqual(raised(insert_element, LANGUAGE, "show 1;", 0, "items", 0, "show 0;", blank), ("NotWritable", {}))
        self.assertEqual(raised(insert_element, TIGHT, "a", 0, "items", 0, "b", " "), ("NotWritable", {}))
        self.assertEqual(self.inserted(TIGHT, "a", "file", "items", 0, "b", ""), ("b,a", 0))

    def test_lists_with_missing_and_skipped_rows(self):
        # A word between that is missing counts as a child.
        text = "f[1 2; $ 3]"
        self.assertEqual([row[2] for row in tree_of(FORMULAS, text) if row[1] == "each"],
                         ["node", "missing", "node", "token", "skipped", "node"])
        self.assertEqual(self.inserted(FORMULAS, text, "arguments", "each", 0, "a"), ("f[a; 1 2; $ 3]", 0))
        self.assertEqual(self.inserted(FORMULAS, text, "arguments", "each", 1, "a"), ("f[1 a; 2; $ 3]", 0))
        self.assertEqual(self.inserted(FORMULAS, text, "arguments", "each", 3, "a"), ("f[1 2; $ 3; a]", 0))
        # The wanted tree has the element ahead of the skipped row; it comes out behind it.
        with self.assertRaises(NotWritable):
            insert_element(FORMULAS, text, 3, "each", 2, "a", " ")
        # A missing element is none.
        text = "f[1; ; 3]"
        self.assertEqual([row[2] for row in tree_of(FORMULAS, text) if row[1] == "each"],
                         ["node", "token", "missing", "token", "node"])
        with self.assertRaises(NotWritable):
            insert_element(FORMULAS, text, 3, "each", 1, "a", " ")
        self.assertEqual(self.inserted(FORMULAS, text, "arguments", "each", 2, "a"), ("f[1; ; 3; a]", 0))
        self.assertEqual(self.inserted(FORMULAS, text, "arguments", "each", 0, "a"), ("f[a; 1; ; 3]", 0))

    def test_skipped_rows_behind_the_last_element(self):
        text = "show 1; $"
        with self.assertRaises(NotWritable):
            insert_element(LANGUAGE, text, 0, "items", 1, "show 2;", " ")
        self.assertEqual(self.inserted(LANGUAGE, text, "file", "items", 0, "show 2;"), ("show 2; show 1; $", 0))

    def test_a_missing_part_ahead_of_the_list(self):
        text = "a + 1"
        tree = tree_of(BODIES, text)
        self.assertEqual([(row[1], row[2]) for row in tree if row[0] == 1],
                         [("name", "token"), (None, "missing"), ("digits", "node")])
        self.assertEqual(self.inserted(BODIES, text, "line", "digits", 0, "+ 2"), ("a + 2, + 1", 0))
        self.assertEqual(self.inserted(BODIES, text, "line", "digits", 1, "+ 2"), ("a + 1, + 2", 0))

    def test_a_word_ahead_of_the_list_with_skipped_tokens(self):
        text = "a $ : + 1"
        tree = tree_of(BODIES, text)
        self.assertEqual([(row[1], row[2]) for row in tree if row[0] == 1],
                         [("name", "token"), (None, "skipped"), (None, "token"), ("digits", "node")])
        self.assertEqual(self.inserted(BODIES, text, "line", "digits", 0, "+ 2"), ("a $ : + 2, + 1", 0))
        self.assertEqual(self.inserted(BODIES, "a $ :", "line", "digits", 0, "+ 2"), ("a $ : + 2", 0))

    def test_the_mode_at_the_place(self):
        self.assertEqual(raised(insert_element, MODES, "!", 0, "items", 1, "a", ""), ("NotWhole", {"rule": "item"}))
        self.assertEqual(self.inserted(MODES, "! ", "file", "items", 0, "a", ""), ("a! ", 0))
        # A text without tokens is read from the first mode.
        self.assertEqual(self.inserted(MODES, "", "file", "items", 0, "a", " "), ("a ", 0))
        # The blank behind the last element decides.
        self.assertEqual(raised(insert_element, MODES, "! ", 0, "items", 1, "a", ""), ("NotWhole", {"rule": "item"}))

    def test_the_old_tokens_ahead_begin_where_they_began(self):
        # The signs are the same without a gap, but the first x is another one then.
        self.assertEqual(self.inserted(SHIFTED, "x", "file", "items", 1, "x", ""), ("xx", 0))
        self.assertEqual(self.inserted(SHIFTED, "x", "file", "items", 1, "#[x]x", " "), ("x #[x]x", 0))
        with self.assertRaises(NotWritable):
            insert_element(SHIFTED, "x", 0, "items", 1, "#[x]x", "")

    def test_the_old_tokens_behind_begin_where_they_are_then(self):
        self.assertEqual(self.replaced(EATING, "o#[x]x", "ohs", "x"), ("x#[x]x", 0, False))
        with self.assertRaises(NotWritable):
            replace_node(EATING, "o#[x]x", 1, "x~")
        # What is put in need not begin where it was put in.
        self.assertEqual(self.replaced(SHIFTED, "o#[x]x", "ohs", "x"), ("x#[x]x", 0, False))

    def test_no_list(self):
        text = "f[1; 2], {a: 1}"
        tree = tree_of(FORMULAS, text)
        for row, one in enumerate(tree):
            for field in ("rest", "each", "entries", "first", "name", "tail", "left", "nothing"):
                fitting = {("file", "rest"), ("arguments", "each"), ("list", "entries")}
                if one[2] != "node" or (one[3], field) not in fitting:
                    self.assertEqual(raised(insert_element, FORMULAS, text, row, field, 0, "1", ""), ("NoList", {}))
        for row in (-1, len(tree), 99):
            self.assertEqual(raised(insert_element, FORMULAS, text, row, "each", 0, "1", ""), ("NoList", {}))
        for row, one in enumerate(tree_of(FORMULAS, "(1 + 2)")):
            self.assertEqual(raised(insert_element, FORMULAS, "(1 + 2)", row, "inside", 0, "1", ""), ("NoList", {}))

    def test_no_element(self):
        for text, many in (("f[]", 0), ("f[$]", 0), ("f[1]", 1), ("f[1;]", 1), ("f[1; 2]", 2)):
            for index in (-1, many + 1, 99):
                self.assertEqual(raised(insert_element, FORMULAS, text, 3, "each", index, "1", ""), ("NoElement", {}))
        self.assertEqual(raised(insert_element, LANGUAGE, "", 0, "items", 1, "show 1;", ""), ("NoElement", {}))

    def test_not_whole(self):
        for element in ("", " ", "1 +", "1; 2", "1;", "$", "]"):
            self.assertEqual(raised(insert_element, FORMULAS, "f[1]", 3, "each", 1, element, ""),
                             ("NotWhole", {"rule": "formula"}))
        for element in ("1", "", "show 1", "show 1; show 2;"):
            self.assertEqual(raised(insert_element, LANGUAGE, "", 0, "items", 0, element, ""), ("NotWhole", {"rule": "item"}))

    def test_too_long_and_too_deep(self):
        self.assertEqual(raised(insert_element, LANGUAGE, "", 0, "items", 0, "show " + "1" * 594 + ";", ""), None)
        self.assertEqual(raised(insert_element, LANGUAGE, "", 0, "items", 0, "show " + "1" * 594 + ";", " "), ("TooLong", {}))
        self.assertEqual(raised(insert_element, LANGUAGE, "", 0, "items", 0, "show " + "1" * 595 + ";", ""), ("TooLong", {}))
        self.assertEqual(raised(insert_element, LANGUAGE, "", 0, "items", 0, "$ " * 201, ""), ("TooLong", {}))
        self.assertEqual(raised(insert_element, LANGUAGE, "", 0, "items", 0, "$ " * 200, ""), ("NotWhole", {"rule": "item"}))
        many = "show " + "+".join(["1"] * 100) + ";"
        self.assertEqual(raised(insert_element, LANGUAGE, "", 0, "items", 0, many, ""), ("TooLong", {}))
        self.assertEqual(raised(insert_element, LANGUAGE, "", 0, "items", 0, "show " + "-" * 97 + "1;", ""), ("TooDeep", {}))
        self.assertEqual(raised(insert_element, LANGUAGE, "", 0, "items", 0, "show " + "-" * 96 + "1;", ""), None)

    def test_which_error_comes_first(self):
        self.assertEqual(raised(insert_element, LANGUAGE, " " * 601, 9, "no", 9, " " * 601, ""), ("TooLong", {}))
        self.assertEqual(raised(insert_element, LANGUAGE, "show 1;", 1, "items", 9, " " * 601, ""), ("NoList", {}))
        self.assertEqual(raised(insert_element, LANGUAGE, "show 1;", 0, "items", 9, " " * 601, ""), ("NoElement", {}))
        self.assertEqual(raised(insert_element, LANGUAGE, "show 1;", 0, "items", 1, " " * 601, ""), ("TooLong", {}))
        self.assertEqual(raised(insert_element, LANGUAGE, "show 1;", 0, "items", 1, "$ " * 201, "$"), ("TooLong", {}))
        self.assertEqual(raised(insert_element, LANGUAGE, "show 1;", 0, "items", 1, "1", "$"), ("NotWhole", {"rule": "item"}))

    def test_what_cannot_be_written_is_told_ahead_of_a_new_text_that_is_too_long(self):
        element = "show " + "1" * 594 + ";"
        self.assertEqual(raised(insert_element, LANGUAGE, "show 1;", 0, "items", 1, element, "$"), ("NotWritable", {}))
        self.assertEqual(raised(insert_element, LANGUAGE, "show 1;", 0, "items", 1, element, ""), ("TooLong", {}))


class RemoveTest(Case):
    def test_without_a_word_between(self):
        text = " show 1; let x = 2;\nshow 3; "
        self.assertEqual(remove_element(LANGUAGE, text, 1), (((1, 9, ""),), 0))
        self.assertEqual(self.removed(LANGUAGE, text, "show"), (" let x = 2;\nshow 3; ", 0))
        self.assertEqual(self.removed(LANGUAGE, text, "let"), (" show 1; show 3; ", 0))
        self.assertEqual(self.removed(LANGUAGE, text, "show", 1), (" show 1; let x = 2; ", 0))
        self.assertEqual(self.removed(LANGUAGE, " show 1; ", "show"), ("  ", 0))
        self.assertEqual(self.removed(LANGUAGE, "show 1;", "show"), ("", 0))

    def test_with_a_word_between(self):
        text = "f[a ; b; c]"
        for number, expected in ((1, "f[b; c]"), (2, "f[a ; c]"), (3, "f[a ; b]")):
            self.assertEqual(self.removed(FORMULAS, text, "call", number), (expected, 0))
        self.assertEqual(self.removed(FORMULAS, "f[ a ]", "call", 1), ("f[  ]", 0))
        self.assertEqual(self.removed(FORMULAS, "{a:1.b:2}", "entry", 1), ("{a:1}", 0))

    def test_gaps(self):
        self.assertEqual(remove_element(MODES, "a\"b\"c", 3), (((1, 4, " "),), 1))
        self.assertEqual(self.removed(MODES, "a\"b\"c", "quote"), ("a c", 1))

    def test_a_longer_token_comes_out(self):
        language = Language({**sections_of([("node", "file", [("many", "item", "items")]),
                                            ("choice", "item", ["name", "dot"]), ("node", "name", [("token", "word", "w")]),
                                            ("node", "dot", [("word", ".")])], "file"), "tokens": [("word", "[a-z]+")]})
        self.assertEqual(faults(language), [])
        with self.assertRaises(NotWritable):
            remove_element(language, "a.b", 3)
        self.assertEqual(self.removed(language, "a.b", "name"), (".b", 0))

    def test_broken_lists(self):
        text = "f[1 2; $ 3; ; 4]"
        self.assertEqual(self.removed(FORMULAS, text, "number"), ("f[2; $ 3; ; 4]", 0))
        # With the element the skipped token would go, too, which the wanted tree still has.
        with self.assertRaises(NotWritable):
            remove_element(FORMULAS, text, rows_of(FORMULAS, text, "number")[1])
        # The stretch up to the next element has two words, the wanted tree lacks one.
        with self.assertRaises(NotWritable):
            remove_element(FORMULAS, text, rows_of(FORMULAS, text, "number")[2])
        with self.assertRaises(NotWritable):
            remove_element(FORMULAS, text, rows_of(FORMULAS, text, "number")[3])
        self.assertEqual(self.removed(LANGUAGE, "$ show 1; let", "show"), ("$ let", 0))
        with self.assertRaises(NotWritable):
            remove_element(LANGUAGE, "show 1; $ show 2;", 1)
        self.assertEqual(self.removed(LANGUAGE, "show 1; show 2; $", "show", 1), ("show 1; $", 0))
        self.assertEqual(self.removed(LANGUAGE, "show 1 show", "show", 1), ("show 1", 0))

    def test_another_tree_comes_out(self):
        # Without the element ahead of them the two skipped rows are one.
        with self.assertRaises(NotWritable):
            remove_element(LANGUAGE, "$ show 1; $", 2)
        self.assertEqual(self.removed(LANGUAGE, "show 1; $", "show"), (" $", 0))

    def test_no_element(self):
        text = "f[1; (2)], 3"
        for row, one in enumerate(tree_of(FORMULAS, text)):
            is_one = one[2] == "node" and one[1] in ("each", "rest")
            self.assertEqual(raised(remove_element, FORMULAS, text, row), None if is_one else ("NoElement", {}))
        for row in (-1, len(tree_of(FORMULAS, text)), 99):
            self.assertEqual(raised(remove_element, FORMULAS, text, row), ("NoElement", {}))
        self.assertEqual(raised(remove_element, LANGUAGE, "", 0), ("NoElement", {}))
        for text in ("(1)", "1 + 2", "not 1"):
            for row in range(len(tree_of(FORMULAS, text))):
                self.assertEqual(raised(remove_element, FORMULAS, text, row), ("NoElement", {}))
        self.assertEqual(raised(remove_element, LANGUAGE, " " * 601, 0), ("TooLong", {}))
        self.assertEqual(raised(remove_element, LANGUAGE, "show " + "(" * 24, 0), ("TooDeep", {}))


class GapsTest(unittest.TestCase):
    """gaps_for"""

    def test_gaps(self):
        for texts, gaps in (([], ()), (["a"], ()), (["a", "b"], (0,)), (["a", "1"], ()), (["1", "2", "3"], (0, 1)),
                            (["let", "x", "=", "1", ";"], (0,)), (["show", "-", "x", ";"], ()),
                            (["show", "x", "let"], (0, 1)), (["(", "a", ")", "b"], ())):
            self.assertEqual(gaps_for(LANGUAGE, texts), gaps)
            self.assertEqual(gaps_for(LANGUAGE, tuple(texts)), gaps)

    def test_a_gap_may_make_another_one_needless(self):
        # From the last one to the first: behind b no gap is needed as long as none stands behind a.
        language = Language({"tokens": [("name", "[a-c]"), ("long", "ab( c)?"), ("blank", " ", None, None, True)],
                             "rules": [("node", "file", [("many", "name", "names")]),
                                       ("node", "name", [("token", "name", "name")])], "start": "file"})
        self.assertEqual(gaps_for(language, ["a", "b"]), (0,))
        self.assertEqual(gaps_for(language, ["b", "c"]), ())
        self.assertEqual(gaps_for(language, ["a", "b", "c"]), (0,))

    def test_the_gaps_farther_behind_count(self):
        language = Language({"tokens": [("name", "[a-c]"), ("two", "bb"), ("long", "ab b"),
                                        ("blank", " ", None, None, True)],
                             "rules": [("node", "file", [("many", "name", "names")]),
                                       ("node", "name", [("token", "name", "name")])], "start": "file"})
        # The gap between the two b makes one behind the a needful.
        self.assertEqual(gaps_for(language, ["b", "b"]), (0,))
        self.assertEqual(gaps_for(language, ["a", "b"]), ())
        self.assertEqual(gaps_for(language, ["a", "b", "b"]), (0, 1))

    def test_none(self):
        for texts in (["a b"], ["a", "b c"], ["  "], ["a", " "], ["1a"], [" a"]):
            self.assertIsNone(gaps_for(LANGUAGE, texts))
        self.assertIsNone(gaps_for(TIGHT, ["a", "b"]))
        self.assertEqual(gaps_for(TIGHT, ["a", "1"]), ())
        self.assertEqual(gaps_for(LANGUAGE, ["$", "#"]), ())

    def test_modes(self):
        self.assertEqual(gaps_for(MODES, ["\"", "a b", "\"", "c", "d"]), (3,))
        self.assertIsNone(gaps_for(MODES, ["\"", "a", "b", "\""]))
        self.assertEqual(gaps_for(MODES, ["a", "\"", "\"", "b"]), ())

    def test_each_text_is_read_in_its_mode(self):
        rules = [("node", "file", [("many", "row", "rows")]), ("node", "row", [("token", "row", "row")])]
        language = Language({
            "modes": ["main", "other"], "rules": rules, "start": "file",
            "tokens": [("row", "[a-z]+"), ("go", "!", None, "other"), ("far", "<>", None, "other"),
                       ("one", "[a-z]", "other")]})
        self.assertIsNone(gaps_for(language, ["a", "b", "c"]))
        self.assertEqual(gaps_for(language, ["!", "a", "b", "c"]), ())
        self.assertEqual(gaps_for(language, ["<>", "a", "b"]), ())

    def test_a_gap_that_changes_the_mode(self):
        # Behind the last text no gap stands, though in its mode it would be two tokens.
        rules = [("node", "file", [("many", "row", "rows")]), ("node", "row", [("token", "row", "row")])]
        language = Language({
            "modes": ["main", "other"], "rules": rules, "start": "file",
            "tokens": [("row", "[a-z]+"), ("blank", " ", None, "other", True), ("pair", "[a-z]1", "other")]})
        self.assertEqual(gaps_for(language, ["a", "b1"]), (0,))


class ComparedTest(unittest.TestCase):
    """Everything is compared with another way to it, over whole and broken texts."""

    def result(self, function, *arguments):
        try:
            return function(*arguments)
        except slowprinting.Wrong as wrong:
            name, *rule = wrong.args
            return (name, {"rule": rule[0]} if rule else {})
        except TongueError as error:
            return (type(error).__name__, dict(vars(error)))

    def text(self, rng, deriver):
        deriver.sentence()
        kinds = deriver.kinds()[:rng.randint(0, 30)]
        if rng.random() < 0.8:
            for _ in range(rng.randint(1, 4)):
                at = rng.randint(0, len(kinds))
                kinds[at:at + rng.randint(0, 1)] = rng.choice(([], [("stray",)], kinds[at - 1:at]))
        text = deriver.text(kinds)[0]
        return text.replace(" ", "") if rng.random() < 0.3 else text

    def put(self, rng, deriver, names):
        deriver.events = []
        deriver.rule(rng.choice(names), 4)
        text = deriver.text(deriver.kinds()[:25])[0]
        return text.strip() if rng.random() < 0.7 else text

    def compare(self, slow, fast, *arguments):
        expected = self.result(slow, *arguments)
        self.assertEqual(self.result(fast, *arguments), expected, arguments[1:])
        return expected[0] if isinstance(expected[0], str) else "done"

    def calls(self, rng, language, deriver, text):
        """Some calls for the rows of a text, most of them sensible ones."""
        names = [rule[1] for rule in language.rules]
        lists = {rule[1]: [part for part in rule[2] if part[0] == "many"] for rule in language.rules if rule[0] == "node"}
        tree = tree_of(language, text)
        for row, one in enumerate(tree):
            if rng.random() < (0.5 if one[2] == "node" else 0.95):
                continue
            rule = place_of(language, tree, row)[0] if one[2] == "node" else names[0]
            rule = rng.choice((rule, rule, rule, rng.choice(names)))
            yield slowprinting.replace, replace_node, row, self.put(rng, deriver, [rule])
            yield slowprinting.remove, remove_element, row
            for _, rule, field, _ in lists.get(one[3], ()):
                for index in rng.sample(range(4), 2):
                    yield (slowprinting.insert, insert_element, row, field, index, self.put(rng, deriver, [rule]),
                           rng.choice(("", " ", "\n")))

    def test_whole_and_broken_texts(self):
        met = {}
        for sections, seed in ((LETS, 1), (CALCULUS, 2), (OPTIONS, 3)):
            language = example(sections)
            rng = random.Random(seed)
            deriver = Deriver(language, rng)
            for _ in range(120):
                text = self.text(rng, deriver)
                if isinstance(self.result(tree_of, language, text)[0], str):
                    continue
                for slow, fast, *rest in self.calls(rng, language, deriver, text):
                    sort = self.compare(slow, fast, language, text, *rest)
                    met[fast.__name__, sort] = met.get((fast.__name__, sort), 0) + 1
        for name in ("replace_node", "insert_element", "remove_element"):
            self.assertGreater(met[name, "done"], 20, met)
            self.assertGreater(met[name, "NotWritable"], 0, met)


if __name__ == "__main__":
    unittest.main()
