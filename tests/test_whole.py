"""What is said of the whole program ([0.3])."""

import copy
import unittest

from tongues.answers import Answers
from tongues.attributefaults import attribute_faults, reads_names
from tongues.automata import Automaton, matches
from tongues.carrying import carried_tokens, differing, parser_tokens
from tongues.cells import Cells
from tongues.expressions import read_expression
from tongues.facts import check_facts
from tongues.formulas import check_formula
from tongues.grammar import faults
from tongues.inlining import extract, inline
from tongues.languages import Language
from tongues.lookups import Names, asked, given_out, leads_to, occurrences_of, scopes_of
from tongues.moving import move
from tongues.nodes import Nodes
from tongues.patterns import can_be_empty, read_pattern, write_pattern
from tongues.places import place_of
from tongues.printing import gaps_for, insert_element, remove_element, replace_node
from tongues.problems import problems
from tongues.projects import Project
from tongues.renaming import clashes, rename
from tongues.saving import saving
from tongues.sections import Sections
from tongues.shapes import Shapes
from tongues.tables import Tables
from tongues.texts import (apply_change, carry_place, check_change, invert_change, join_changes,
                           line_and_column)
from tongues.tokens import Lexer, relex, tokens
from tongues.trees import problems_of, tree_of
from tongues.values import gathered, worked
from tongues.winners import lookahead, winners
from tongues.workbench import Workbench
from tests.attributing import attributing
from tests.evaluating import evaluating
from tests.languages import CALCULUS, LETS
from tests.modules import modules
from tests.naming import naming


def numbers_in(value):
    """All numbers, True and False in a value."""
    if isinstance(value, dict):
        return [number for pair in value.items() for number in numbers_in(pair)]
    if isinstance(value, (list, tuple)):
        return [number for part in value for number in numbers_in(part)]
    return [value] if isinstance(value, int) else []


class WholeProgramTest(unittest.TestCase):
    def test_a_whole_number_is_never_true_or_false(self):
        language = Language(LETS)
        change = ((0, 1, ""), (2, 2, "xy"))
        machine = Automaton([read_pattern("a[bc]*")])
        told = [invert_change("abc", change), join_changes("abc", change, change), carry_place(3, change, 1),
                line_and_column("\n", 1), machine.states(9), machine.after(None, "a"),
                machine.matching(machine.after(None, "a")), tokens(language.lexer, "let x = 1;$"),
                relex(language.lexer, "let x", change), lookahead(language.lexer), tree_of(language, "show 1 2"),
                problems_of(tree_of(language, "show")),
                faults(Language({**LETS, "rules": LETS["rules"] + [("choice", "a", ["let", "let"])]}))]
        for value in told:
            numbers = numbers_in(value)
            self.assertTrue(numbers)
            self.assertEqual({type(number) for number in numbers}, {int}, value)

    def test_whole_numbers_of_parts_e_to_h(self):
        language, naming_language = Language(LETS), naming()
        cells = Cells()
        cells.define("a", ("if", ("cyclic", "a"), 1, ("plus", 1, 2)))
        cells.define("b", ("plus", ("cyclic", "a"), 1))
        cells.define("c", ("cyclic", "d"))
        cells.define("e", ("plus", "b", "c"))
        project = Project({"a": naming_language}, {"m": ("a", "{ show x; } fun x { } show . x of x;")})
        names = Names(project)
        faulty = Language(attributing(checks=[("let", "1", "2")], equations=[]))
        told = [cells.ask("b"), cells.ask("c"), [cells.ask("e"), cells.reads("e")], cells.trim(),
                place_of(language, [(None, None, "node", "file", 0, 1)], 0),
                replace_node(language, "show 1;", 3, "2")[:2], insert_element(language, "", 0, "items", 0, "show 1;", ""),
                remove_element(language, "show 1;", 1), gaps_for(language, ["a", "b"]), scopes_of(project, "m"),
                occurrences_of(project, "m"), leads_to(project, "m", 7), asked(project, "m", 7),
                given_out(project, "m", "values", "x"), [names.row_leads("m", row) for row in range(30)],
                read_expression("(add 1 -2)"), worked("length", [("text", "a")]), gathered("sum", [], None),
                Nodes(language, ((None, None, "node", "file", 0, 0),)).numbers(), attribute_faults(faulty),
                reads_names(Language(attributing()))]
        for value in told:
            numbers = numbers_in(value)
            self.assertTrue(numbers, value)
            self.assertEqual({type(number) for number in numbers}, {int}, value)

    def test_arguments_of_parts_e_to_h_are_not_changed(self):
        sections = attributing()
        languages = {"b": Language(sections), "a": naming()}
        files = {"n": ["a", "var x;"], "m": ["b", "let a = 1;"]}
        texts, values = ["a", "b"], [("integer", 1), ("integer", 2)]
        tree = list(tree_of(languages["b"], "let a = 1;"))
        given = [sections, files, texts, values, tree, list(languages)]
        before = copy.deepcopy(given)
        project = Project(languages, files).with_texts({"n": "var y;"})
        leads_to(project, "n", 4)
        check_facts(languages["a"])
        gaps_for(languages["b"], texts)
        worked("add", values)
        gathered("sum", values, None)
        place_of(languages["b"], tree, 0)
        Nodes(languages["b"], tree).numbers()
        Shapes(languages["b"]).can_be("sum")
        Sections(languages["b"])
        attribute_faults(languages["b"])
        self.assertEqual(given[:-1] + [list(languages)], before)

    def test_whole_numbers_of_parts_h_to_l(self):
        project = Project({"a": evaluating()}, {"m": ("a", "use 'n'; let b = 1; show (b + 2); let c = c;"), "n": ("a", "show b")})
        answers, workbench = Answers(project), Workbench()
        workbench.set_language("a", modules())
        for file, text in (("m", "def b = 1 + 2; show b; show 1 + 2;"), ("n", "use 'm'; show b;")):
            workbench.open_file(file, "a", text)
        changed = workbench.project()
        change = {"n": ((0, 9, ""),)}
        after = changed.with_texts({"n": "show b;"})
        pairs = carried_tokens(changed, after, change)
        told = [[answers.instances.values("m", row) for row in (0, 5)], answers.instances.reads("m", 0, "told"),
                answers.instances.rings(), answers.definition("m", 26), answers.uses("m", 26), answers.outline("m"),
                [answers.node_at("m", 3)], answers.visible("m", 30, "values"), answers.hover("m", 26),
                answers.explain("m", 0, "told"), problems(answers, "m"), parser_tokens(project, "m"), pairs,
                differing(changed, after, pairs), rename(project, "m", 13, "q"), clashes(project, "m", 13, "c"),
                saving(project, "m", 13, "c"), move(changed, "m", 4, "n", 0), inline(changed, "m", 4),
                extract(changed, "m", 8, 13, "q", every=True), [workbench.version()], workbench.made_from()[1:]]
        for value in told:
            numbers = [number for number in numbers_in(value) if number is not True and number is not False]
            self.assertTrue(numbers, value)
            self.assertEqual({type(number) for number in numbers}, {int}, value)
        # True and False are only the values of booleans.
        booleans = [number for value in told[1:6] + told[11:] for number in numbers_in(value) if number is True or number is False]
        self.assertEqual(booleans, [])

    def test_arguments_of_parts_j_to_l_are_not_changed(self):
        workbench = Workbench()
        workbench.set_language("a", modules())
        workbench.open_file("m", "a", "def b = 1; show b;")
        before = workbench.project()
        changes = {"m": [[0, 0, "show 1; "]], "x": []}
        after = before.with_texts({"m": "show 1; def b = 1; show b;"})
        pairs = [list(pair) for pair in carried_tokens(before, after, changes)]
        given = copy.deepcopy([changes, pairs])
        differing(before, after, [tuple(pair) for pair in pairs])
        workbench.edit({"m": changes["m"]})
        for function in (inline, lambda project, file, at: rename(project, file, at, "c")):
            function(before, "m", 4).clear()
        self.assertEqual([changes, pairs], given)
        self.assertEqual((before.text("m"), len(inline(before, "m", 4))), ("def b = 1; show b;", 1))

    def test_arguments_are_not_changed(self):
        sections = copy.deepcopy(CALCULUS)
        trees = [read_pattern("ab|c*"), read_pattern("(a)+")]
        modes, words = ["main"], ["let"]
        rules = [["word", "[a-z]+", None, None, False]]
        change = [[0, 1, "x"], [2, 2, "y"]]
        given = [sections, trees, modes, words, rules, change]
        before = copy.deepcopy(given)
        language = Language(sections)
        Tables(language).rows()
        faults(language)
        tree = tree_of(language, "1 + $")
        problems_of(list(tree))
        lexer = Lexer(modes, words, rules)
        for function in (winners, lookahead):
            function(lexer)
        relex(lexer, "let x", change)
        check_change("abc", change)
        invert_change("abc", change)
        join_changes("abc", change, change)
        carry_place(3, change, 3)
        self.assertEqual(apply_change("abc", change), "xbyc")
        Automaton(trees).states(9)
        for one in trees:
            write_pattern(one)
            can_be_empty(one)
            matches(one, "ab")
        check_formula(("plus", 1, "a"))
        self.assertEqual(given, before)

    def test_what_is_returned_may_be_changed(self):
        lexer = Language(LETS).lexer
        for mode in lexer.modes:
            expected = (lexer.kinds(mode), lexer.automaton(mode).states(200))
            lexer.kinds(mode).clear()
            states = lexer.automaton(mode).states(200)
            for rows in states.values():
                rows.reverse()
            states.clear()
            self.assertEqual((lexer.kinds(mode), lexer.automaton(mode).states(200)), expected)
            self.assertEqual(len(tokens(lexer, "let x")), 3)


if __name__ == "__main__":
    unittest.main()
