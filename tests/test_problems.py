"""The problems of a file ([I10])."""

import random
import unittest

from tongues.answers import Answers
from tongues.attributefaults import attribute_faults
from tongues.errors import TooDeep, TooLong
from tongues.problems import problems
from tongues.projects import Project
from tests.evaluating import EQUATIONS, evaluating
from tests.naming import PRIVATE, naming
from tests.raising import raised
from tests.randomtexts import evaluating_text, naming_text
from tests.slowanswers import SlowAnswers

OPEN, HIDDEN, EVAL = naming(), naming(PRIVATE), evaluating()


def told(*texts, language="open", file="m", **more):
    """The problems of a file of a project with files m, n, .. of these texts."""
    languages = {"open": OPEN, "hidden": HIDDEN, "eval": EVAL, **more}
    files = {"mnop"[number]: (language, text) for number, text in enumerate(texts)}
    return problems(Answers(Project(languages, files)), file)


def checking(*checks):
    """The problems by some checks alone of a text, without those of names."""
    def found(text, node="let"):
        language = evaluating(checks=[(node, *check) for check in checks])
        assert attribute_faults(language) == []
        return told(text, language="check", check=language)
    return found


class TreeTest(unittest.TestCase):
    def test_none(self):
        for text in ("", " \n", "var a; show a;"):
            self.assertEqual(told(text), ())

    def test_missing(self):
        self.assertEqual(told("var a"), ((5, 5, "missing", ";"),))
        self.assertEqual(told("var ;"), ((3, 3, "missing", "word"),))
        self.assertEqual(told("show ;"), ((4, 4, "missing", "sum"),))
        self.assertEqual(told("pull ;"), ((4, 4, "missing", "quote"),))
        self.assertEqual(told("show (1 +;"), ((9, 9, "missing", ")"), (9, 9, "missing", "inner")))

    def test_skipped(self):
        self.assertEqual(told("$ 1; var a; 2"), ((0, 4, "skipped", ""), (12, 13, "skipped", "")))


class NamesTest(unittest.TestCase):
    def test_twice(self):
        self.assertEqual(told("var a; var b; let a = 1; own a = 2;"), ((18, 19, "twice", "a"), (29, 30, "twice", "a")))

    def test_the_same_name_elsewhere(self):
        self.assertEqual(told("var a; { var a; { var a; } } box a { var a; } fun f #a { }"), ())
        self.assertEqual(told("var a; fun f #a, #a { var a; }"), ((18, 19, "twice", "a"), (26, 27, "twice", "a")))
        self.assertEqual(told("box a { } box a { }"), ((14, 15, "twice", "a"),))
        # A name inside of its node and one that is declared around it.
        self.assertEqual(told("loop i to 1 { var i; } loop i to 1 { }"), ((18, 19, "twice", "i"),))

    def test_nowhere_and_several(self):
        self.assertEqual(told("show a; var b; var b; show b; take m: c, b; show in d; take x: e;"), (
            (5, 6, "nowhere", "a"), (19, 20, "twice", "b"), (27, 28, "several", "b"), (38, 39, "nowhere", "c"),
            (41, 42, "several", "b"), (52, 53, "nowhere", "d"), (60, 61, "no file", "x"), (63, 64, "nowhere", "e")))

    def test_no_file(self):
        text = "pull 'x'; take y: ; pull 'n'; push ''; hand n: ; pull ;"
        self.assertEqual(told(text, ""), (
            (5, 8, "no file", "x"), (15, 16, "no file", "y"), (35, 37, "no file", ""), (53, 53, "missing", "quote")))
        # A file may bring itself.
        self.assertEqual(told("pull 'm';"), ())


class ChecksTest(unittest.TestCase):
    def test_true_and_false(self):
        found = checking(("(less (own total) 5)", "(append \"too large: \" (spelling name))"))
        self.assertEqual(found("let a = 4; let b = 5; let c = 6;"),
                         ((11, 21, "check", "too large: b"), (22, 32, "check", "too large: c")))

    def test_absent_and_cyclic_conditions(self):
        found = checking(("(less (own total) 0)", "\"no\""))
        self.assertEqual(found("let a = x;"), ((8, 9, "nowhere", "x"),))
        self.assertEqual([row[2] for row in found("let a = a;")], ["cycle"])

    def test_absent_and_cyclic_messages(self):
        found = checking(("false", "(shown (child value worth))"))
        self.assertEqual(found("let a;"), ((0, 6, "check", ""),))
        self.assertEqual(found("let a = 7;"), ((0, 10, "check", "7"),))
        self.assertEqual([row[2:] for row in found("let a = a;")], [("check", ""), ("cycle", "total")])

    def test_else_does_not_help_with_what_is_cyclic(self):
        found = checking(("(else (less 0 (child value worth)) false)", "\"no\""))
        self.assertEqual([row[2] for row in found("let a = a;")], ["cycle"])
        self.assertEqual([row[2] for row in found("let a = x;")], ["check", "nowhere"])

    def test_several_checks_of_a_node(self):
        found = checking(("false", "\"b\""), ("true", "\"c\""), ("false", "\"a\""), ("false", "\"b\""))
        self.assertEqual(found("let a;"), ((0, 6, "check", "a"), (0, 6, "check", "b"), (0, 6, "check", "b")))

    def test_nodes_in_brackets_and_operators(self):
        language = evaluating(checks=[("plus", "(less (own worth) 3)", "(shown (own worth))"), ("number", "false", "\"n\"")])
        self.assertEqual(told("show (1 + (2 + 3));", language="check", check=language), (
            (6, 7, "check", "n"), (6, 17, "check", "6"), (11, 12, "check", "n"), (11, 16, "check", "5"), (15, 16, "check", "n")))

    def test_a_node_without_tokens(self):
        language = evaluating(checks=[("file", "false", "\"f\"")])
        self.assertEqual(told("  ", language="check", check=language), ((0, 0, "check", "f"),))

    def test_what_is_large(self):
        found = checking(("false", "(append (spelling name) (append (spelling name) (spelling name)))"))
        name = "a" * 400
        self.assertEqual(found(f"let {name};"), ((0, 405, "check", ""),))

    def test_other_names_of_nodes(self):
        language = evaluating(checks=[("show", "false", "\"s\"")])
        self.assertEqual(told("let a; show 1;", language="check", check=language), ((7, 14, "check", "s"),))


class CyclesTest(unittest.TestCase):
    def test_in_one_file(self):
        self.assertEqual([row for row in told("let a = a; let b = c; let c = b;", language="eval") if row[2] == "cycle"],
                         [(0, 10, "cycle", "total"), (11, 21, "cycle", "total")])

    def test_over_several_files(self):
        texts = ("use 'n'; let q = 1;", "use 'o'; let a = b;", "use 'n'; let b = a;")
        found = [[row for row in told(*texts, language="eval", file=file) if row[2] == "cycle"] for file in "mno"]
        self.assertEqual(found, [[], [(9, 19, "cycle", "total")], []])

    def test_at_the_first_by_the_order_of_attributes(self):
        # Both attributes stand at one node; their order is that of the language, not that of their names.
        equations = [equation for equation in EQUATIONS if equation[:2] not in (("let", "told"), ("let", "shape"))]
        language = evaluating(equations=equations + [("let", "told", "(label (own shape))"), ("let", "shape", "(named (own told))")])
        self.assertEqual(attribute_faults(language), [])
        rows = told("let a;", language="turned", turned=language)
        self.assertEqual([row for row in rows if row[2] == "cycle"], [(0, 6, "cycle", "shape")])

    def test_two_cycles_at_one_node(self):
        equations = [equation for equation in EQUATIONS if equation[:2] not in (("let", "told"), ("let", "shape"))]
        language = evaluating(equations=equations + [("let", "told", "(own told)"), ("let", "shape", "(own shape)")])
        rows = told("let a;", language="turned", turned=language)
        self.assertEqual([row for row in rows if row[2] == "cycle"], [(0, 6, "cycle", "shape"), (0, 6, "cycle", "told")])


class TogetherTest(unittest.TestCase):
    def test_every_sort(self):
        text = "use 'x'; let a = a; let a = q $; show b; let b = b; let c = 30"
        self.assertEqual(told(text, language="eval"), (
            (4, 7, "no file", "x"), (17, 18, "several", "a"), (24, 25, "twice", "a"), (28, 29, "nowhere", "q"),
            (30, 31, "skipped", ""), (41, 51, "cycle", "total"), (52, 62, "check", "big c"),
            (62, 62, "missing", ";")))

    def test_the_error(self):
        answers = Answers(Project({"open": OPEN}, {"m": ("open", "")}))
        self.assertEqual(raised(problems, answers, "x"), ("NoFile", {"name": "x"}))
        self.assertEqual(problems(answers, "m"), ())

    def test_random_projects(self):
        """The problems are compared with another way to them."""
        met = {}
        for seed in range(100, 140):
            rng = random.Random(seed)
            files = {}
            for file in "mno"[:rng.randint(1, 3)]:
                name, size = rng.choice(("open", "hidden", "eval", "eval", "eval")), rng.choice((0, 40, 80))
                files[file] = (name, evaluating_text(rng, EVAL, size) if name == "eval" else naming_text(rng, OPEN, size))
            try:
                project = Project({"open": OPEN, "hidden": HIDDEN, "eval": EVAL}, files)
            except (TooLong, TooDeep):
                continue
            slow, answers = SlowAnswers(project), Answers(project)
            for file in project.file_names():
                found = problems(answers, file)
                self.assertEqual(found, slow.problems(file), (seed, file))
                for row in found:
                    met[row[2]] = met.get(row[2], 0) + 1
        self.assertEqual(sorted(met), ["check", "cycle", "missing", "no file", "nowhere", "several", "skipped", "twice"])


if __name__ == "__main__":
    unittest.main()
