"""Nodes of trees ([H9])."""

import random
import unittest

from tongues.nodes import Nodes
from tongues.trees import tree_of
from tests.derivations import Deriver
from tests.languages import CALCULUS, LETS, OPTIONS, example, language_of

LANGUAGE = example(LETS)
FORMULAS = example(CALCULUS)
SUMS = language_of([
    ("operators", "sum", "atom", [("left", [("+", "plus")]), ("prefix", [("-", "minus")])], ("(", ")")),
    ("node", "atom", [("token", "word", "name")])], "sum")


class Case(unittest.TestCase):
    def nodes(self, language, text):
        return Nodes(language, tree_of(language, text))

    def row(self, nodes, name, number=0):
        return [row for row in nodes.numbers() if nodes.name(row) == name][number]


class NodesTest(Case):
    def test_a_whole_text(self):
        text = "show a + ((b)); let c = 1;"
        nodes = self.nodes(LANGUAGE, text)
        self.assertEqual(nodes.tree, tree_of(LANGUAGE, text))
        self.assertEqual([nodes.name(row) for row in nodes.numbers()],
                         ["file", "show", "plus", "name", "name", "let", "number"])
        self.assertEqual([row for row in range(-2, 40) if nodes.is_node(row)], nodes.numbers())
        self.assertIs(nodes.is_node(0), True)
        self.assertIs(nodes.is_node(2), False)
        self.assertEqual(nodes.root(), 0)

    def test_children(self):
        nodes = self.nodes(LANGUAGE, "show a + ((b)); let c = (1);")
        show, plus, let = self.row(nodes, "show"), self.row(nodes, "plus"), self.row(nodes, "let")
        first, second, number = self.row(nodes, "name"), self.row(nodes, "name", 1), self.row(nodes, "number")
        self.assertEqual(nodes.children(0, "items"), [show, let])
        self.assertEqual(nodes.children(show, "value"), [plus])
        self.assertEqual((nodes.children(plus, "left"), nodes.children(plus, "right")), ([first], [second]))
        self.assertEqual(nodes.children(let, "value"), [number])
        self.assertEqual((nodes.children(let, "name"), nodes.children(let, "nothing"), nodes.children(first, "name")),
                         ([], [], []))
        nodes.children(0, "items").clear()
        nodes.numbers().clear()
        self.assertEqual(nodes.children(0, "items"), [show, let])

    def test_around(self):
        nodes = self.nodes(LANGUAGE, "show a + ((-(b)));")
        show, plus, minus = (self.row(nodes, name) for name in ("show", "plus", "minus"))
        self.assertEqual(nodes.around(0), (None, None))
        self.assertEqual(nodes.around(show), (0, "items"))
        self.assertEqual(nodes.around(plus), (show, "value"))
        self.assertEqual(nodes.around(self.row(nodes, "name")), (plus, "left"))
        self.assertEqual(nodes.around(minus), (plus, "right"))
        self.assertEqual(nodes.around(self.row(nodes, "name", 1)), (minus, "operand"))

    def test_tokens(self):
        nodes = self.nodes(LANGUAGE, "let a = (b); let = 1;")
        tree = nodes.tree
        let, name = self.row(nodes, "let"), self.row(nodes, "name")
        self.assertEqual(tree[nodes.token(let, "name")][4:], (4, 5))
        self.assertEqual(tree[nodes.token(name, "name")][4:], (9, 10))
        for row, field in ((let, "value"), (let, "nothing"), (0, "items"), (self.row(nodes, "let", 1), "name")):
            self.assertIsNone(nodes.token(row, field))

    def test_the_first_token_in_a_field(self):
        nodes = self.nodes(FORMULAS, "f[1; 2]")
        arguments = self.row(nodes, "arguments")
        self.assertEqual(nodes.tree[nodes.token(arguments, "each")][3], ("word", ";"))
        self.assertEqual(len(nodes.children(arguments, "each")), 2)

    def test_lists_without_elements(self):
        for text in ("f[]", "f[$ ,"):
            nodes = self.nodes(FORMULAS, text)
            self.assertEqual(nodes.children(self.row(nodes, "arguments"), "each"), [])
        self.assertEqual(self.nodes(LANGUAGE, "$").children(0, "items"), [])

    def test_missing_and_skipped_rows(self):
        nodes = self.nodes(LANGUAGE, "$ show 1 + ; $ let = 2 show (; show")
        self.assertEqual([nodes.name(row) for row in nodes.numbers()],
                         ["file", "show", "plus", "number", "let", "number", "show", "show"])
        self.assertEqual(len(nodes.children(0, "items")), 4)
        plus = self.row(nodes, "plus")
        self.assertEqual((len(nodes.children(plus, "left")), nodes.children(plus, "right")), (1, []))
        # Brackets without a node inside.
        self.assertEqual(nodes.children(self.row(nodes, "show", 1), "value"), [])

    def test_the_outermost_node(self):
        for text, names in (("a", ["atom"]), ("(a)", ["atom"]), ("((a + b))", ["plus", "atom", "atom"]), ("$ (a) b", ["atom"]),
                            ("()", []), ("(", []), ("((", []), ("", []), ("$", [])):
            nodes = self.nodes(SUMS, text)
            self.assertEqual([nodes.name(row) for row in nodes.numbers()], names)
            if names:
                self.assertEqual(nodes.root(), nodes.numbers()[0])
                self.assertEqual(nodes.around(nodes.root()), (None, None))
            else:
                self.assertIsNone(nodes.root())

    def test_empty_texts(self):
        nodes = self.nodes(LANGUAGE, "")
        self.assertEqual((nodes.numbers(), nodes.root(), nodes.children(0, "items")), ([0], 0, []))
        nodes = self.nodes(example(OPTIONS), " ")
        self.assertEqual((nodes.numbers(), nodes.root(), nodes.name(0), nodes.token(0, "head")), ([0], 0, "body", None))
        self.assertEqual([nodes.is_node(row) for row in (-2, -1, 0, 1)], [False, False, True, False])
        nodes = Nodes(SUMS, ())
        self.assertEqual((nodes.tree, nodes.numbers(), nodes.root()), ((), [], None))


class ComparedTest(Case):
    def test_children_and_what_is_around_go_together(self):
        rng = random.Random(4)
        for sections in (LETS, CALCULUS):
            language = example(sections)
            deriver = Deriver(language, rng)
            brackets = [rule[1] for rule in language.rules if rule[0] == "operators"]
            for _ in range(40):
                deriver.sentence()
                kinds = deriver.kinds()[:60]
                if kinds and rng.random() < 0.5:
                    del kinds[rng.randrange(len(kinds))]
                tree = tree_of(language, deriver.text(kinds)[0])
                nodes = Nodes(language, tree)
                expected = {}
                for row, one in enumerate(tree):
                    if one[2] == "node" and one[3] not in brackets:
                        around, field = one[:2]
                        while around is not None and tree[around][3] in brackets:
                            around, field = tree[around][:2]
                        expected[row] = (around, field)
                self.assertEqual(nodes.numbers(), list(expected))
                self.assertEqual([nodes.around(row) for row in expected], list(expected.values()))
                for around in expected:
                    for field in {field for _, field in expected.values()}:
                        self.assertEqual(nodes.children(around, field),
                                         [row for row in expected if expected[row] == (around, field)])


if __name__ == "__main__":
    unittest.main()
