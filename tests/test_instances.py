"""Instances of attributes ([H8] to [H11], [H16] to [H18])."""

import random
import unittest

from tongues.attributefaults import attribute_faults
from tongues.errors import TongueError
from tongues.facts import check_facts
from tongues.grammar import faults
from tongues.instances import Instances, NoInstance
from tongues.languages import Language
from tongues.projects import NoFile, Project
from tests.attributing import attributing
from tests.evaluating import ATTRIBUTES, EQUATIONS, evaluating
from tests.languages import TOKENS
from tests.raising import raised
from tests.randomtexts import evaluating_text
from tests.slowinstances import SlowInstances

ABSENT, CYCLE = ("absent",), ("cycle",)
LANGUAGE = evaluating()


def project_of(**texts):
    """A project with files of these texts."""
    return Project({"eval": LANGUAGE}, {name: ("eval", text) for name, text in texts.items()})


def rows_of(project, file, name):
    """The rows of the nodes of a name."""
    return [row for row, one in enumerate(project.tree(file)) if one[2:4] == ("node", name)]


def term(label, *below):
    return ("term", label, below)


class Probe:
    """The value of an expression at the last node of a name in a text, and what it reads."""

    def __init__(self, node, sort, expression, text):
        language = evaluating(attributes=ATTRIBUTES + [("probe", "up", sort, [node])],
                              equations=EQUATIONS + [(node, "probe", expression)])
        self.faults = attribute_faults(language)
        project = Project({"a": language}, {"m": ("a", text)})
        self.row = rows_of(project, "m", node)[-1]
        instances = Instances(project)
        self.value = instances.value("m", self.row, "probe")
        self.reads = tuple((row, name) for _, row, name in instances.reads("m", self.row, "probe"))


class ReadingTest(unittest.TestCase):
    def probe(self, node, sort, expression, text):
        probe = Probe(node, sort, expression, text)
        self.assertEqual(probe.faults, [])
        return probe

    def check(self, node, sort, expression, text, expected):
        self.assertEqual(self.probe(node, sort, expression, text).value, expected, (expression, text))

    def test_the_language(self):
        self.assertEqual((faults(LANGUAGE), check_facts(LANGUAGE), attribute_faults(LANGUAGE)), ([], None, []))

    def test_plain_expressions(self):
        for sort, expression, expected in (
                ("integer", "-7", ("integer", -7)), ("boolean", "true", ("boolean", True)),
                ("text", '"a\\"b"', ("text", 'a"b')), ("term", '(term "t")', term("t")),
                ("term", '(term "t" (named "a") (term "b"))', term("t", term("a"), term("b")))):
            self.check("show", sort, expression, "show 1;", expected)

    def test_operations(self):
        for sort, expression, expected in (
                ("integer", "(add 2 3)", 5), ("integer", "(subtract 2 3)", -1), ("integer", "(multiply 2 3)", 6),
                ("integer", "(quotient -7 2)", -3), ("integer", "(remainder -7 2)", -1),
                ("boolean", "(less 2 3)", True), ("boolean", '(same "a" "b")', False), ("boolean", "(not true)", False),
                ("boolean", "(and true false)", False), ("boolean", "(or true false)", True),
                ("integer", "(negative 3)", -3), ("integer", '(length "abc")', 3), ("text", "(shown -3)", "-3"),
                ("integer", '(parsed "07")', 7), ("text", '(label (named "a"))', "a"),
                ("integer", '(size (term "t" (term "a")))', 1), ("text", '(append "a" "b")', "ab")):
            self.check("show", sort, expression, "show 1;", (sort, expected))
        self.check("show", "term", '(with (term "t") (term "a"))', "show 1;", term("t", term("a")))
        self.check("show", "term", '(argument (term "t" (term "a")) 0)', "show 1;", term("a"))

    def test_an_absent_operand_makes_absent(self):
        for sort, expression in (("integer", "(add (quotient 1 0) 1)"), ("boolean", "(and false (less (quotient 1 0) 1))"),
                                 ("boolean", "(or true (less 1 (remainder 1 0)))"), ("text", '(shown (parsed "x"))'),
                                 ("term", '(term "t" (term "a") (argument (term "b") 0))'),
                                 ("integer", "(if (less 1 (quotient 1 0)) 1 2)"), ("boolean", "(same 1 (quotient 1 0))"),
                                 ("integer", "(else (quotient 1 0) (remainder 1 0))")):
            self.check("show", sort, expression, "show 1;", ABSENT)

    def test_what_is_too_large_is_absent(self):
        large = "1000000"
        for _ in range(10):
            large = f"(multiply 1000000 {large})"
        self.check("show", "integer", f"(quotient (multiply 10 {large}) 10)", "show 1;", ABSENT)
        self.check("show", "integer", large.replace("(multiply 1000000 1000000)", "1000000"), "show 1;",
                   ("integer", 10 ** 60))

    def test_all_operands_are_evaluated_in_order(self):
        probe = self.probe("plus", "integer", "(add (add (child left worth) (child right worth)) (own level))",
                           "show x + 1;")
        left, right = probe.row + 1, probe.row + 4
        self.assertEqual((probe.value, probe.reads),
                         (ABSENT, ((left, "worth"), (right, "worth"), (probe.row, "level"))))
        probe = self.probe("plus", "boolean", "(and (child left good) (child right good))", "show x + 1;")
        self.assertEqual((probe.value, probe.reads), (("boolean", False), ((left, "good"), (right, "good"))))

    def test_else_is_evaluated_as_far_as_it_counts(self):
        probe = self.probe("plus", "integer", "(else (child left worth) (child right worth))", "show 1 + 2;")
        self.assertEqual((probe.value, probe.reads), (("integer", 1), ((probe.row + 1, "worth"),)))
        probe = self.probe("plus", "integer", "(else (child left worth) (child right worth))", "show x + 2;")
        self.assertEqual((probe.value, probe.reads),
                         (("integer", 2), ((probe.row + 1, "worth"), (probe.row + 4, "worth"))))
        probe = self.probe("plus", "boolean", "(else (child left good) (child right good))", "show x + 2;")
        self.assertEqual((probe.value, probe.reads), (("boolean", False), ((probe.row + 1, "good"),)))

    def test_if_is_evaluated_as_far_as_it_counts(self):
        expression = "(if (child left good) (child left worth) (child right worth))"
        probe = self.probe("plus", "integer", expression, "show 1 + 2;")
        self.assertEqual((probe.value, probe.reads), (("integer", 2), ((probe.row + 1, "good"), (probe.row + 4, "worth"))))
        probe = self.probe("plus", "integer", expression, "show 2 + 3;")
        self.assertEqual((probe.value, probe.reads), (("integer", 2), ((probe.row + 1, "good"), (probe.row + 1, "worth"))))
        probe = self.probe("plus", "integer", "(if (less (child left worth) 2) (own level) (child right worth))",
                           "show x + 3;")
        self.assertEqual((probe.value, probe.reads), (ABSENT, ((probe.row + 1, "worth"),)))

    def test_own(self):
        self.check("plus", "integer", "(own level)", "{ show 1 + 2; }", ("integer", 1))
        self.check("use", "text", "(own told)", "use 'n';", ("text", "'n'"))

    def test_child(self):
        for text, expected in (("show 4;", ("integer", 4)), ("show ((4));", ("integer", 4)), ("show ;", ABSENT),
                               ("show (;", ABSENT), ("show ();", ABSENT), ("show $ 4;", ("integer", 4)),
                               ("show 4 5;", ("integer", 4)), ("show (4;", ("integer", 4))):
            self.check("show", "integer", "(child value worth)", text, expected)

    def test_has(self):
        for text, expected in (("let a = 1;", True), ("let a;", False), ("let a = ;", True), ("let = 1;", True),
                               ("let a $ = 1;", False)):
            self.check("let", "boolean", "(has value)", text, ("boolean", expected))
        for text, expected in (("let a;", True), ("let ;", False), ("let $;", False), ("let $ a;", True)):
            self.check("let", "boolean", "(has name)", text, ("boolean", expected))
        for text, expected in (("show 1;", True), ("show (1);", True), ("show ();", False), ("show ;", False),
                               ("show $;", False), ("show (+);", True)):
            self.check("show", "boolean", "(has value)", text, ("boolean", expected))

    def test_count(self):
        for text, expected in (("show [];", 0), ("show [1];", 1), ("show [1, (2), 3 + 4];", 3), ("show [1,, 2];", 2),
                               ("show [1 2];", 2), ("show [, $ ];", 0), ("show [(), 1];", 1), ("show [1,", 1)):
            self.check("tally", "integer", "(count parts)", text, ("integer", expected))

    def test_spelling(self):
        for text, expected in (("let abc;", ("text", "abc")), ("let $ abc;", ("text", "abc")), ("let ;", ABSENT),
                               ("let $;", ABSENT)):
            self.check("let", "text", "(spelling name)", text, expected)
        self.check("use", "text", "(spelling file)", "use 'n';", ("text", "'n'"))

    def test_last(self):
        for text, expected in (("show [];", ("integer", 7)), ("show [1];", ("integer", 1)),
                               ("show [1, 2];", ("integer", 2)), ("show [1, ((3))];", ("integer", 3)),
                               ("show [1, x];", ABSENT), ("show [1, ];", ("integer", 1)), ("show [1, ()];", ("integer", 1))):
            self.check("tally", "integer", "(last parts worth 7)", text, expected)
        probe = self.probe("tally", "integer", "(last parts worth (own level))", "show [1, 2];")
        self.assertEqual([name for _, name in probe.reads], ["worth"])
        probe = self.probe("tally", "integer", "(last parts worth (own level))", "show [];")
        self.assertEqual([name for _, name in probe.reads], ["level"])

    def test_gathered(self):
        for expression, sort, expected in (
                ("(sum parts worth)", "integer", (0, 1, 6)), ("(all parts good)", "boolean", (True, True, False)),
                ("(any parts good)", "boolean", (False, True, True))):
            for text, value in zip(("show [];", "show [1];", "show [1, 0, (5)];"), expected):
                self.check("tally", sort, expression, text, (sort, value))
        for text, below in (("show [];", ()), ("show [1];", ("1",)), ("show [1, (2), 1];", ("1", "2", "1")),
                            ("show [1 2, ()];", ("1", "2"))):
            self.check("tally", "term", "(collect parts shape)", text, term("", *[term(one) for one in below]))
        for text, joined in (("", ""), ("let a = 1;", "a1"), ("let a = 1; { let b; } let c = 2;", "a1--b0--c2")):
            self.check("file", "text", '(join items told "--")', text, ("text", joined))

    def test_gathered_with_something_absent(self):
        probe = self.probe("tally", "integer", "(sum parts worth)", "show [1, x, 2];")
        self.assertEqual((probe.value, [name for _, name in probe.reads]), (ABSENT, ["worth"] * 3))
        for expression, sort in (("(collect items shape)", "term"), ('(join items told "")', "text")):
            probe = self.probe("file", sort, expression, "show 1; show ; show 2;")
            self.assertEqual((probe.value, len(probe.reads)), (ABSENT, 3))
        probe = self.probe("tally", "boolean", "(any parts good)", "show [1, (), 2];")
        self.assertEqual((probe.value, len(probe.reads)), (("boolean", True), 2))
        probe = self.probe("file", "boolean", "(all items good)", "show 0; show ; show 0;")
        self.assertEqual((probe.value, len(probe.reads)), (ABSENT, 3))

    def test_what_is_gathered_is_too_large_from_a_step_on(self):
        text = "let " + "a" * 480 + "; "
        # Each of the texts is absent that is longer than 1000 characters on the way.
        probe = self.probe("file", "text", '(append (join items told "") (join items told ""))', text)
        self.assertEqual(probe.value, ("text", 2 * ("a" * 480 + "0")))
        probe = self.probe("file", "text", '(append "' + "b" * 39 + '" (append (join items told "") (join items told "")))', text)
        self.assertEqual(probe.value, ABSENT)

    def test_before(self):
        project = project_of(m="show 5; { show x; show y; } show z;")
        instances = Instances(project)
        first, block, inner, second, last = [row for row, one in enumerate(project.tree("m"))
                                             if one[2] == "node" and one[3] in ("show", "block")]
        for row, expected, read in ((first, 7, (0, "base")), (block, 5, (first, "total")), (inner, 5, (block, "ahead")),
                                    (second, 5, (inner, "total")), (last, 5, (block, "total"))):
            self.assertEqual(instances.value("m", row, "ahead"), ("integer", expected))
            self.assertEqual(instances.reads("m", row, "ahead"), (("m", *read),))

    def test_before_goes_by_the_nodes_alone(self):
        project = project_of(m="show [1, , (2), 3 $, x];")
        instances = Instances(project)
        rows = [row for row in rows_of(project, "m", "number") + rows_of(project, "m", "name")]
        self.assertEqual([instances.value("m", row, "level")[1:] for row in rows], [(0,), (1,), (2,), (3,)])
        # The first one in brackets.
        project = project_of(m="show [((4)), 5];")
        instances = Instances(project)
        self.assertEqual([instances.value("m", row, "level") for row in rows_of(project, "m", "number")],
                         [("integer", 0), ("integer", 4)])

    def test_meant(self):
        def check(expected, *marks, **texts):
            project = project_of(**texts)
            instances = Instances(project)
            row = rows_of(project, "m", "name")[-1]
            self.assertEqual(instances.value("m", row, "worth"), expected, texts)
            self.assertEqual([read[::2] for read in instances.reads("m", row, "worth")], list(marks))

        check(ABSENT, m="show a;")
        check(("integer", 3), ("m", "total"), m="let a = 3; show a;")
        check(ABSENT, m="let a = 3; let a = 3; show a;")
        check(("integer", 4), ("n", "total"), m="use 'n'; show a;", n="let a = 4;")
        check(ABSENT, m="use 'n'; use 'o'; show a;", n="let a = 4;", o="let a = 4;")
        check(ABSENT, ("m", "total"), m="let a = b; show a;")

    def test_meant_without_a_token(self):
        rules = [("node", "file", [("many", "item", "items")]), ("node", "item", [("word", "!"), ("token", "word", "name")])]
        sections = {"tokens": TOKENS, "rules": rules, "start": "file", "spaces": ["v"],
                    "attributes": [("a", "up", "integer", ["item"]), ("b", "up", "integer", ["item"])],
                    "equations": [("item", "a", "(meant name b)"), ("item", "b", "5")]}
        language = Language({**sections, "names": [("lists", "item", "name", "v")]})
        # There has to be a node that declares in the space.
        self.assertEqual(attribute_faults(language), [("equations", 0, "part", ("meant", "name", "b"))])
        rules = [("node", "file", [("many", "item", "items")]), ("choice", "item", ["let", "use"]),
                 ("node", "let", [("word", "let"), ("token", "word", "name")]),
                 ("node", "use", [("word", "!"), ("token", "word", "name")])]
        language = Language({**sections, "rules": rules, "names": [("declares", "let", "name", "v"),
                                                                   ("refers", "use", "name", "v")],
                             "attributes": [("a", "up", "integer", ["use"]), ("b", "up", "integer", ["let"])],
                             "equations": [("use", "a", "(meant name b)"), ("let", "b", "5")]})
        self.assertEqual((faults(language), attribute_faults(language)), ([], []))
        project = Project({"a": language}, {"m": ("a", "let x ! x ! ! $")})
        instances = Instances(project)
        self.assertEqual([instances.value("m", row, "a") for row in rows_of(project, "m", "use")],
                         [("integer", 5), ABSENT, ABSENT])
        self.assertEqual(instances.reads("m", rows_of(project, "m", "use")[1], "a"), ())

    def test_meant_in_a_file_of_another_language(self):
        """By its name: the same language under another name is another one."""
        for other, expected in (("eval", ("integer", 4)), ("other", ABSENT)):
            project = Project({"eval": LANGUAGE, "other": LANGUAGE},
                              {"m": ("eval", "use 'n'; show a;"), "n": (other, "let a = 4;")})
            instances = Instances(project)
            row = rows_of(project, "m", "name")[0]
            self.assertEqual(instances.value("m", row, "worth"), expected)
            self.assertEqual(len(instances.reads("m", row, "worth")), 1 if other == "eval" else 0)


class PlaceTest(unittest.TestCase):
    def test_attributes_that_go_down(self):
        project = project_of(m="show 1 + (- 2); { show (3); }")
        instances = Instances(project)
        levels = {project.tree("m")[row][4]: instances.value("m", row, "level")[1]
                  for name in ("minus", "number") for row in rows_of(project, "m", name)}
        self.assertEqual(levels, {5: 1, 10: 0, 12: 0, 24: 1})
        self.assertEqual(instances.value("m", rows_of(project, "m", "plus")[0], "level"), ("integer", 0))

    def test_the_outermost_node(self):
        instances = Instances(project_of(m="show 1;", n=""))
        for file in "mn":
            self.assertEqual(instances.value(file, 0, "base"), ("integer", 7))
            self.assertEqual(instances.reads(file, 0, "base"), ())
            self.assertEqual(instances.value(file, 0, "bare"), ABSENT)
            self.assertEqual(instances.reads(file, 0, "bare"), ())

    def test_an_outermost_node_in_brackets(self):
        language = Language({
            "tokens": TOKENS, "start": "sum",
            "rules": [("operators", "sum", "number", [("left", [("+", "plus")])], ("(", ")")),
                      ("node", "number", [("token", "number", "digits")])],
            "attributes": [("depth", "down", "integer", ["sum"], "5")],
            "equations": [("plus", "left", "depth", "(add (own depth) 1)"), ("plus", "right", "depth", "0")]})
        self.assertEqual((faults(language), attribute_faults(language)), ([], []))
        project = Project({"a": language}, {"m": ("a", "((1) + 2)"), "n": ("a", "$ 1 $"), "o": ("a", "(("), "p": ("a", "+")})
        instances = Instances(project)
        self.assertEqual([(row, instances.values("m", row)) for row in (2, 5, 9)], [
            (2, [("depth", ("integer", 5))]), (5, [("depth", ("integer", 6))]), (9, [("depth", ("integer", 0))])])
        self.assertEqual([one[2] for one in project.tree("n")], ["skipped", "node", "token", "skipped"])
        self.assertEqual(instances.values("n", 1), [("depth", ("integer", 5))])
        self.assertEqual(instances.rings(), [])

    def test_without_an_equation(self):
        """Such languages have faults, but an instance without an equation is absent all the same."""
        language = Language(attributing(equations=[("number", "worth", "1")]))
        self.assertNotEqual(attribute_faults(language), [])
        project = Project({"a": language}, {"m": ("a", "show x;")})
        instances = Instances(project)
        row = rows_of(project, "m", "use")[0]
        self.assertEqual(dict(instances.values("m", row)), {name: ABSENT for name in ("worth", "good", "shape", "depth")})
        self.assertEqual((instances.reads("m", row, "depth"), instances.cycle("m", row, "worth")), ((), None))

    def test_attributes_and_values(self):
        project = project_of(m="show 1;")
        instances = Instances(project)
        self.assertEqual(instances.attributes("m", 0), ["shape", "told", "base", "bare"])
        show = rows_of(project, "m", "show")[0]
        self.assertEqual(instances.attributes("m", show), ["good", "shape", "told", "total", "ahead", "level"])
        self.assertEqual(instances.values("m", show), [
            ("good", ("boolean", True)), ("shape", term("1")), ("told", ("text", "1")), ("total", ("integer", 1)),
            ("ahead", ("integer", 7)), ("level", ("integer", 0))])
        instances.attributes("m", show).clear()
        instances.values("m", show).clear()
        self.assertEqual((len(instances.attributes("m", show)), len(instances.values("m", show))), (6, 6))

    def test_no_instance(self):
        self.assertEqual(NoInstance.__bases__, (TongueError,))
        project = project_of(m="show (1); $")
        instances = Instances(project)
        tree = project.tree("m")
        wrong = [-1, len(tree), 99] + [row for row, one in enumerate(tree) if one[2] != "node" or one[3] == "sum"]
        self.assertGreater(len(wrong), 8)
        for row in wrong:
            for call in ((instances.attributes, "m", row), (instances.values, "m", row), (instances.value, "m", row, "good"),
                         (instances.reads, "m", row, "good"), (instances.cycle, "m", row, "good")):
                self.assertEqual(raised(*call), ("NoInstance", {}), call)
        for function in (instances.value, instances.reads, instances.cycle):
            self.assertEqual(raised(function, "m", 0, "good"), ("NoInstance", {}))
            self.assertEqual(raised(function, "m", 0, "nothing"), ("NoInstance", {}))
            # NoFile comes first.
            self.assertEqual(raised(function, "x", -1, "nothing"), ("NoFile", {"name": "x"}))
        for function in (instances.attributes, instances.values):
            self.assertEqual(raised(function, "x", -1), ("NoFile", {"name": "x"}))
        self.assertEqual(NoFile.__bases__, (TongueError,))


class CycleTest(unittest.TestCase):
    def setUp(self):
        self.tokens = TOKENS
        self.rules = [
            ("node", "file", [("maybe", "use", "use"), ("many", "item", "items")]),
            ("node", "use", [("word", "use"), ("token", "word", "file")]),
            ("node", "item", [("word", "!"), ("token", "word", "name"), ("word", ":"), ("many", "ref", "refs", ",")]),
            ("node", "ref", [("token", "word", "name")])]
        self.sections = {
            "tokens": TOKENS, "rules": self.rules, "start": "file", "spaces": ["v"],
            "names": [("declares", "item", "name", "v", "gives"), ("refers", "ref", "name", "v"),
                      ("brings", "use", "file", "whole")]}

    def instances(self, expression, sort="integer", more=(), equations=(), **texts):
        """For each item, an attribute `a` of this expression; for each reference `b`, that of what it means."""
        language = Language({**self.sections, "attributes": [("a", "up", sort, ["item"]), ("b", "up", sort, ["ref"]), *more],
                             "equations": [("item", "a", expression), ("ref", "b", "(meant name a)"), *equations]})
        self.assertEqual((faults(language), attribute_faults(language)), ([], []))
        self.project = Project({"l": language}, {name: ("l", text) for name, text in texts.items()})
        return Instances(self.project)

    def item(self, file, number):
        return rows_of(self.project, file, "item")[number]

    def test_an_instance_that_reads_itself(self):
        instances = self.instances("(own a)", m="!x:")
        row = self.item("m", 0)
        self.assertEqual(instances.value("m", row, "a"), CYCLE)
        self.assertEqual(instances.reads("m", row, "a"), (("m", row, "a"),))
        self.assertEqual(instances.cycle("m", row, "a"), (("m", row, "a"),))
        self.assertEqual(instances.rings(), [(("m", row, "a"),)])

    def test_rings(self):
        instances = self.instances("(sum refs b)", m="!x:y !y:z !z:x !q:x")
        x, y, z, q = [self.item("m", number) for number in range(4)]
        ref = rows_of(self.project, "m", "ref")
        ring = (("m", x, "a"), ("m", ref[0], "b"), ("m", y, "a"), ("m", ref[1], "b"), ("m", z, "a"), ("m", ref[2], "b"))
        for row in (q, z, y, x):
            self.assertEqual(instances.value("m", row, "a"), CYCLE)
        for number, instance in enumerate(ring):
            self.assertEqual(instances.cycle(*instance), ring[number:] + ring[:number])
            self.assertEqual(instances.reads(*instance), (ring[(number + 1) % 6],))
        # What leads into a ring.
        self.assertEqual(instances.cycle("m", q, "a"), ring)
        self.assertEqual(instances.cycle("m", ref[3], "b"), ring)
        self.assertEqual(instances.rings(), [ring])

    def test_rings_over_several_files(self):
        instances = self.instances("(sum refs b)", m="use n !x:y", n="use o !y:z", o="use m !z:x, w !w:")
        rows = {file: (self.item(file, 0), rows_of(self.project, file, "ref")[0]) for file in "mno"}
        ring = tuple((file, row, name) for file in "mno" for row, name in zip(rows[file], "ab"))
        for number, instance in enumerate(ring):
            self.assertEqual(instances.cycle(*instance), ring[number:] + ring[:number])
        self.assertEqual(instances.rings(), [ring])
        self.assertEqual(instances.value("o", self.item("o", 1), "a"), ("integer", 0))
        # The chain goes by the last instance that is read, so that w is not read behind the cyclic one.
        self.assertEqual(instances.reads("o", rows["o"][0], "a"), (("o", rows["o"][1], "b"),))

    def test_reads_up_to_the_first_cyclic_one(self):
        instances = self.instances("(add (sum refs b) (sum refs b))", m="!x:y, x, y !y: !q:y")
        x, y, q = [self.item("m", number) for number in range(3)]
        ref = rows_of(self.project, "m", "ref")
        self.assertEqual(instances.reads("m", x, "a"), (("m", ref[0], "b"), ("m", ref[1], "b")))
        self.assertEqual(instances.value("m", x, "a"), CYCLE)
        self.assertEqual(instances.cycle("m", x, "a"), (("m", x, "a"), ("m", ref[1], "b")))
        # Each as often as it is read.
        self.assertEqual(instances.reads("m", q, "a"), (("m", ref[3], "b"), ("m", ref[3], "b")))
        self.assertEqual((instances.value("m", q, "a"), instances.cycle("m", q, "a")), (("integer", 0), None))
        self.assertEqual(instances.reads("m", y, "a"), ())

    def test_what_reads_a_cyclic_instance_is_cyclic(self):
        for sort, expression in (
                ("integer", "(else (last refs b 1) 2)"), ("integer", "(else (quotient 1 0) (last refs b 1))"),
                ("integer", "(if (less (sum refs b) 1) 2 3)"), ("integer", "(if true (last refs b 1) 3)"),
                ("boolean", "(all refs b)"), ("boolean", "(any refs b)"), ("boolean", "(or true (any refs b))"),
                ("term", "(collect refs b)"), ("text", '(join refs b "")'), ("integer", "(sum refs b)"),
                ("integer", "(last refs b 1)")):
            instances = self.instances(expression, sort, m="!x:x !y:x !z:")
            for number in (0, 1):
                self.assertEqual(instances.value("m", self.item("m", number), "a"), CYCLE, expression)
            self.assertEqual(len(instances.rings()), 1)
            self.assertEqual(len(instances.rings()[0]), 2)

    def test_what_is_not_evaluated_makes_no_cycle(self):
        for expression in ("(if true 1 (sum refs b))", "(if false (sum refs b) 1)", "(else 1 (sum refs b))"):
            instances = self.instances(expression, m="!x:x")
            self.assertEqual(instances.value("m", self.item("m", 0), "a"), ("integer", 1))
            self.assertEqual((instances.reads("m", self.item("m", 0), "a"), instances.rings()), ((), []))

    def test_a_cycle_only_as_far_as_something_is_absent(self):
        # Whether y is read depends on what x is.
        instances = self.instances("(if (less (last refs b 0) 1) (count refs) (own a))", m="!x: !y:x !z:y")
        self.assertEqual([instances.value("m", self.item("m", number), "a") for number in range(3)],
                         [("integer", 0), ("integer", 1), CYCLE])
        z = self.item("m", 2)
        self.assertEqual(instances.cycle("m", z, "a"), (("m", z, "a"),))
        self.assertEqual([read[2] for read in instances.reads("m", z, "a")], ["b", "a"])

    def test_downward_and_upward(self):
        more = [("c", "down", "integer", ["ref"])]
        instances = self.instances("(sum refs d)", more=more + [("d", "up", "integer", ["ref"])],
                                   equations=[("ref", "d", "(own c)"), ("item", "refs", "c", "(before d (own a))")], m="!x:y, z")
        item = self.item("m", 0)
        first, second = rows_of(self.project, "m", "ref")
        ring = (("m", item, "a"), ("m", first, "d"), ("m", first, "c"))
        self.assertEqual(instances.cycle("m", item, "a"), ring)
        self.assertEqual(instances.cycle("m", second, "c"), (ring[1], ring[2], ring[0]))
        self.assertEqual(instances.rings(), [ring])

    def test_long_chains(self):
        """Instances that wait for very many others."""
        texts = {}
        for number, file in enumerate("mnopqr"):
            names = [chr(97 + number) + one for one in "abcdefghijklmnopqrstuvwxyz"]
            after = names[1:] + [chr(98 + number) + "a"]
            texts[file] = f"use {chr(ord(file) + 1)} " + " ".join(f"!{name}:{other}" for name, other in zip(names, after))
        instances = self.instances("(add 1 (sum refs b))", **texts)
        self.assertEqual(instances.value("m", self.item("m", 0), "a"), ABSENT)
        texts["r"] = texts["r"].replace(":ga", ":")
        instances = self.instances("(add 1 (sum refs b))", **texts)
        self.assertEqual(instances.value("m", self.item("m", 0), "a"), ("integer", 156))
        texts["r"] = texts["r"].replace("!fz:", "!fz:aa").replace("use s", "use m")
        instances = self.instances("(add 1 (sum refs b))", **texts)
        self.assertEqual(instances.value("o", self.item("o", 3), "a"), CYCLE)
        self.assertEqual([len(ring) for ring in instances.rings()], [312])
        self.assertEqual(instances.rings()[0][0], ("m", self.item("m", 0), "a"))


class ComparedTest(unittest.TestCase):
    """Values, reads and cycles are compared with another way to them, for random projects, some with broken texts."""

    def test_random_projects(self):
        met = {"known": 0, "cyclic": 0, "absent": 0, "leading": 0, "files": 0}
        for seed in range(25):
            rng = random.Random(seed)
            files = {file: (rng.choice("aaab"), evaluating_text(rng, LANGUAGE, rng.choice((0, 30, 60, 100))))
                     for file in "mno"[:rng.randint(1, 3)]}
            if seed < 5:
                # Files that bring one another, with names of their own, so that rings go through all of them.
                files = {file: ("a", f"use '{other}'; let {name} = 1 + {after}; show {name}; let y{name} = y{after}; ")
                         for file, other, name, after in (("m", "n", "a", "b"), ("n", "o", "b", "c"), ("o", "m", "c", "a"))}
                files["p"] = ("a", "use 'm'; " + evaluating_text(rng, LANGUAGE, 60))
            project = Project({"a": LANGUAGE, "b": LANGUAGE}, files)
            slow, instances = SlowInstances(project), Instances(project)
            order = list(slow.all)
            rng.shuffle(order)
            for instance in order:
                self.assertEqual(instances.value(*instance), slow.value(instance))
                self.assertEqual(instances.reads(*instance), slow.told_reads(instance))
                ring = instances.cycle(*instance)
                self.assertEqual(ring, slow.cycle(instance))
                met["known" if ring is None else "cyclic"] += 1
                met["absent"] += slow.value(instance) == ABSENT
                met["leading"] += ring is not None and instance not in ring
                met["files"] += ring is not None and len({one[0] for one in ring}) > 1
            self.assertEqual(sorted(ring[0] for ring in instances.rings()), slow.rings())
        self.assertTrue(all(number > 10 for number in met.values()), met)


if __name__ == "__main__":
    unittest.main()
