"""What an editor asks ([I1] to [I9])."""

import random
import unittest

from tongues.answers import Answers
from tongues.errors import TooDeep, TooLong
from tongues.instances import Instances
from tongues.projects import Project
from tests.evaluating import evaluating
from tests.languages import language_of
from tests.naming import PRIVATE, naming
from tests.raising import raised
from tests.randomtexts import evaluating_text, naming_text
from tests.slowanswers import SlowAnswers

OPEN, HIDDEN, EVAL = naming(), naming(PRIVATE), evaluating()


def answers_of(*texts, language="open"):
    """Answers about files m, n, .. with these texts."""
    return Answers(Project({"open": OPEN, "hidden": HIDDEN, "eval": EVAL},
                           {"mnop"[number]: (language, text) for number, text in enumerate(texts)}))


def at(text, mark, number=0):
    """The position of the so-many-th mark in a text."""
    position = -1
    for _ in range(number + 1):
        position = text.index(mark, position + 1)
    return position


class DefinitionTest(unittest.TestCase):
    def test_the_first_and_the_last_character(self):
        answers = answers_of("var abc; show abc;")
        for position in range(20):
            expected = (("m", 4, 7),) if 4 <= position < 7 or 14 <= position < 17 else None
            self.assertEqual(answers.definition("m", position), expected, position)

    def test_declarations_references_and_listed_names(self):
        text = "take n: a, b; hand n: c; var d; show d + e;"
        answers = answers_of(text, "var a; var c; var c;")
        for mark, expected in (("a,", (("n", 4, 5),)), ("b;", ()), ("c;", (("n", 11, 12), ("n", 18, 19))),
                               ("d;", (("m", 29, 30),)), ("d +", (("m", 29, 30),)), ("e;", ())):
            self.assertEqual(answers.definition("m", at(text, mark)), expected, mark)
        for mark in ("take", "n:", ":", ";", " "):
            self.assertIsNone(answers.definition("m", at(text, mark)), mark)

    def test_the_ends_of_texts(self):
        answers = answers_of("show a", "", " ")
        self.assertEqual([answers.definition("m", position) for position in (0, 4, 5, 6)], [None, None, (), None])
        self.assertEqual([answers.definition("n", 0), answers.definition("o", 0), answers.definition("o", 1)], [None] * 3)

    def test_skipped_tokens(self):
        # "b" is a skipped token of the tree, and so no occurrence.
        answers = answers_of("var a; show a b;")
        self.assertIsNone(answers.definition("m", 14))
        self.assertEqual(answers.definition("m", 12), (("m", 4, 5),))

    def test_the_error(self):
        answers = answers_of("")
        for call in ((answers.definition, "x", 0), (answers.uses, "x", 0), (answers.outline, "x"),
                     (answers.node_at, "x", 0), (answers.visible, "x", 0, "values"), (answers.hover, "x", 0),
                     (answers.explain, "x", 0, "a")):
            self.assertEqual(raised(*call), ("NoFile", {"name": "x"}))

    def test_the_attributes(self):
        project = Project({"open": OPEN}, {"m": ("open", "show 1;")})
        answers = Answers(project)
        self.assertEqual(answers.project, project)
        self.assertIsInstance(answers.instances, Instances)
        self.assertEqual(answers.instances.values("m", 0), [])


class UsesTest(unittest.TestCase):
    def test_of_a_declaration_a_reference_and_a_listed_name(self):
        text = "var a; show a + a; show b;"
        answers = answers_of(text, "take m: a; show a;", "push 'm'; { show a; }")
        expected = (("m", 12, 13), ("m", 16, 17), ("n", 8, 9), ("n", 16, 17), ("o", 17, 18))
        for file, position in (("m", 4), ("m", 12), ("m", 16), ("n", 8), ("n", 16), ("o", 17)):
            self.assertEqual(answers.uses(file, position), expected, (file, position))
        self.assertIsNone(answers.uses("m", at(text, "b")))
        for position in (0, 3, 5, 6, 26):
            self.assertIsNone(answers.uses("m", position))

    def test_of_a_declaration_without_uses(self):
        self.assertEqual(answers_of("var a;").uses("m", 4), ())

    def test_uses_that_lead_to_others_too(self):
        text = "var a; var a; show a;"
        answers = answers_of(text, "take m: a;", "take m: a; take p: a; show a;", "var a; show a;")
        shared = (("m", 19, 20), ("n", 8, 9), ("o", 8, 9), ("o", 27, 28))
        # Both declarations lead to both, but each is a declaration itself.
        self.assertEqual((answers.uses("m", 4), answers.uses("m", 11)), (shared, shared))
        self.assertEqual(answers.uses("p", 4), (("o", 19, 20), ("o", 27, 28), ("p", 12, 13)))
        self.assertEqual(answers.uses("p", 12), answers.uses("p", 4))
        for file, position in (("m", 19), ("n", 8), ("o", 27)):
            self.assertIsNone(answers.uses(file, position))
        self.assertEqual(answers.uses("o", 19), answers.uses("p", 4))


class OutlineTest(unittest.TestCase):
    def outline(self, text):
        return answers_of(text).outline("m")

    def test_without_declarations(self):
        self.assertEqual([self.outline(text) for text in ("", "show a;", "{ }", "fun")], [()] * 4)

    def test_declarations_within_scopes_of_others(self):
        text = "var a; fun f #p #q { var b; fun g { let c = 1; } { var d; } } var e;"
        self.assertEqual(self.outline(text), (
            (None, 4, 5, "values", "a"), (None, 11, 12, "values", "f"), (1, 14, 15, "values", "p"), (1, 17, 18, "values", "q"),
            (1, 25, 26, "values", "b"), (1, 32, 33, "values", "g"), (5, 40, 41, "values", "c"), (1, 55, 56, "values", "d"),
            (None, 66, 67, "values", "e")))

    def test_a_declaration_inside_of_its_own_node(self):
        text = "loop i to 3 { var j; loop k to 4 { var l; } } box b { var v; }"
        self.assertEqual([(row[0], row[3], row[4]) for row in self.outline(text)], [
            (None, "values", "i"), (0, "values", "j"), (0, "values", "k"), (2, "values", "l"), (None, "boxes", "b"),
            (4, "values", "v")])

    def test_several_declarations_of_one_node(self):
        language = language_of([
            ("node", "file", [("many", "pair", "pairs")]),
            ("node", "pair", [("token", "word", "first"), ("word", "/"), ("token", "word", "second"), ("word", "("),
                              ("many", "pair", "pairs"), ("word", ")")])], "file", spaces=["v", "w"],
            names=[("opens", "pair"), ("declares", "pair", "first", "v", "inside"), ("declares", "pair", "second", "w")])
        answers = Answers(Project({"a": language}, {"m": ("a", "a/b(c/d()e/f(g/()))")}))
        self.assertEqual([(row[0], row[4]) for row in answers.outline("m")], [
            (None, "a"), (None, "b"), (0, "c"), (0, "d"), (0, "e"), (0, "f"), (4, "g")])

    def test_the_first_of_a_node_by_the_text(self):
        language = language_of([
            ("node", "file", [("maybe", "pair", "pair")]),
            ("node", "pair", [("word", "("), ("maybe", "pair", "inner"), ("word", ")"), ("token", "word", "first"),
                              ("token", "word", "second")])], "file", spaces=["v"],
            names=[("declares", "pair", "second", "v"), ("declares", "pair", "first", "v"), ("opens", "pair")])
        answers = Answers(Project({"a": language}, {"m": ("a", "(()a b)c d")}))
        self.assertEqual([(row[0], row[4]) for row in answers.outline("m")], [(2, "a"), (2, "b"), (None, "c"), (None, "d")])


class NodeTest(unittest.TestCase):
    def names(self, text, language="eval"):
        """For each position the name of the node around it, and its start."""
        answers = answers_of(text, language=language)
        tree = answers.project.tree("m")
        rows = [answers.node_at("m", position) for position in range(len(text) + 1)]
        return [None if row is None else (tree[row][3], tree[row][4]) for row in rows]

    def test_tokens_and_what_is_between_them(self):
        show, plus = ("show", 0), ("plus", 5)
        self.assertEqual(self.names("show 1 + a ; "), [
            show, show, show, show, show, ("number", 5), plus, plus, plus, ("name", 9), show, show, None, None])

    def test_the_ends_of_texts(self):
        self.assertEqual(self.names(""), [None])
        self.assertEqual(self.names("  "), [None, None, None])
        self.assertEqual(self.names(" show 1;"), [None] + [("show", 1)] * 5 + [("number", 6), ("show", 1), None])

    def test_brackets_are_nodes(self):
        inner = ("sum", 5)
        self.assertEqual(self.names("show ( 1 );")[5:], [inner, inner, ("number", 7), inner, inner, ("show", 0), None])

    def test_between_nodes(self):
        file = ("file", 0)
        self.assertEqual(self.names("show 1; show 2;")[6:9], [("show", 0), file, ("show", 8)])

    def test_touching_nodes(self):
        # Behind the last token of a node its last token lies ahead.
        self.assertEqual(self.names("{show 1;}")[6:], [("number", 6), ("show", 1), ("block", 0), None])
        self.assertEqual(self.names("[1,2]"[:0] + "show [1,2];")[5:], [
            ("tally", 5), ("number", 6), ("tally", 5), ("number", 8), ("tally", 5), ("show", 0), None])

    def test_skipped_tokens(self):
        # A skipped token is no row of its own; it lies behind each position within it.
        show = ("show", 0)
        self.assertEqual(self.names("show 1 foo;"), [show] * 5 + [("number", 5)] + [show] * 5 + [None])
        self.assertEqual(self.names("$ show 1;")[:3], [None, ("file", 0), ("show", 2)])
        self.assertEqual(self.names("show 1; foo"), [show] * 5 + [("number", 5), show] + [("file", 0)] * 4 + [None])

    def test_skipped_stretches_at_the_beginning_of_a_node(self):
        # "( $ 1 )": what is skipped is a token of the brackets, and lies ahead of the number.
        names = self.names("show ($1);")
        self.assertEqual(names[5:8], [("sum", 5), ("sum", 5), ("number", 7)])
        tree = answers_of("show $ $ 1;", language="eval").project.tree("m")
        self.assertEqual([row[2:] for row in tree if row[2] == "skipped"], [("skipped", None, 5, 8)])
        self.assertEqual(self.names("show $ $ 1;")[5:], [("show", 0)] * 4 + [("number", 9), ("show", 0), None])

    def test_nodes_of_skipped_tokens_alone(self):
        self.assertEqual(self.names("$$"), [None, ("file", 0), None])
        self.assertEqual(self.names("$ $"), [None, ("file", 0), ("file", 0), None])


class VisibleTest(unittest.TestCase):
    def names(self, text, position, space="values", *others, language="open"):
        return "".join(name for name, _ in answers_of(text, *others, language=language).visible("m", position, space))

    def test_what_it_would_lead_to(self):
        text = "var b; var a; { var a; } box c { }"
        answers = answers_of(text, "var a; var b; var d;")
        self.assertEqual(answers.visible("m", 0, "values"), (("a", (("m", 11, 12),)), ("b", (("m", 4, 5),))))
        self.assertEqual(answers.visible("m", 17, "values"), (("a", (("m", 20, 21),)), ("b", (("m", 4, 5),))))
        self.assertEqual(answers.visible("m", 0, "boxes"), (("c", (("m", 29, 30),)),))
        self.assertEqual(answers.visible("m", 0, "others"), ())
        self.assertEqual(answers_of("").visible("m", 0, "values"), ())

    def test_beginning_within_and_behind_scopes(self):
        text = "var a; { var b; { var c; } } var d;"
        for mark, expected in (("var a", "ad"), ("{", "abd"), ("var b", "abd"), ("{ var c", "abcd"), ("var c", "abcd"),
                               ("} }", "abcd"), (" }", "abcd"), (" } var", "abd"), ("} var", "abd"), (" var d", "ad"), ("d;", "ad")):
            self.assertEqual(self.names(text, at(text, mark)), expected, mark)
        self.assertEqual(self.names(text, len(text)), "ad")

    def test_a_field_that_is_left_out(self):
        text = "fun f :  x #p { var q; }"
        self.assertEqual(self.names(text, at(text, "fun")), "fpq")
        self.assertEqual(self.names(text, at(text, "f :")), "f")      # the name lies outside
        self.assertEqual(self.names(text, at(text, "x")), "f")        # so does the default
        self.assertEqual(self.names(text, at(text, ":")), "f")        # the node of the default is in its field
        self.assertEqual(self.names(text, at(text, " x")), "f")       # between its tokens
        self.assertEqual(self.names(text, at(text, " :")), "fpq")     # no token there: nothing is left out
        self.assertEqual(self.names(text, at(text, "#")), "fpq")
        self.assertEqual(self.names(text, at(text, " #")), "fpq")
        text = "loop i to 1 + j { }"
        self.assertEqual([self.names(text, at(text, mark)) for mark in ("loop", "i", "1", "+", "j", "{")],
                         ["i", "i", "", "", "", "i"])

    def test_a_word_of_a_scope_is_in_no_field(self):
        self.assertEqual(self.names("box b { var v; }", 0), "v")
        self.assertEqual(self.names("box b { var v; }", 4), "")
        self.assertEqual(self.names("box b { var v; }", 5), "v")

    def test_skipped_tokens_within_a_scope(self):
        text = "fun f foo { var q; }"
        self.assertEqual([self.names(text, position) for position in (6, 7, 9)], ["fq"] * 3)

    def test_behind_and_own(self):
        text = "let a = 1; own b = 2; show c;"
        for mark, expected in (("let", ""), ("a =", ""), ("1", ""), (";", ""), (" own", "a"), ("b", "ab"), ("=", ""),
                               ("2", "ab"), ("show", "ab")):
            self.assertEqual(self.names(text, at(text, mark)), expected, mark)
        # At a token a reference starts where the token starts.
        text = "own bcd = 1; let efg = 2;"
        self.assertEqual([self.names(text, position) for position in (3, 4, 5, 6, 7)], ["", "bcd", "bcd", "bcd", "bcd"])
        self.assertEqual([self.names(text, position) for position in (24, 25)], ["bcd", "bcdefg"])

    def test_listed_names_and_files_brought_whole(self):
        self.assertEqual(self.names("take n: a, c;", 0, "values", "var a; var b;"), "a")
        self.assertEqual(self.names("pull 'n';", 0, "values", "var a; { var b; } take o: c;", "var c;"), "a")
        self.assertEqual(self.names("pull 'n';", 0, "values", "var a; hand o: c; push 'o';", "var c; var d;"), "acd")
        self.assertEqual(self.names("take n: ren a as b;", 0, "values", "var a; var b;"), "b")
        self.assertEqual(self.names("pull 'n';", 0, "values", "var a;", language="hidden"), "")

    def test_several(self):
        answers = answers_of("pull 'n'; pull 'o';", "var a; var a;", "var a;")
        self.assertEqual(answers.visible("m", 0, "values"), (("a", (("n", 4, 5), ("n", 11, 12), ("o", 4, 5))),))


class HoverTest(unittest.TestCase):
    def test_nodes_with_their_values(self):
        answers = answers_of("show 1 + 2;", language="eval")
        tree = answers.project.tree("m")
        plus = [row for row, one in enumerate(tree) if one[3] == "plus"][0]
        self.assertEqual(answers.hover("m", 7), (plus, tuple(answers.instances.values("m", plus))))
        self.assertEqual(answers.hover("m", 7)[1][0], ("worth", ("integer", 3)))

    def test_brackets(self):
        answers = answers_of("show ( ( 1 ) );", language="eval")
        tree = answers.project.tree("m")
        self.assertEqual([tree[answers.hover("m", position)[0]][3] for position in (5, 6, 7, 8, 9, 10, 11, 13, 14)],
                         ["show"] * 4 + ["number"] + ["show"] * 4)

    def test_the_outermost_node_and_none(self):
        answers = answers_of("show 1; show 2; ", "((1))", language="eval")
        self.assertEqual(answers.hover("m", 7), (0, tuple(answers.instances.values("m", 0))))
        self.assertEqual([answers.hover("m", position) for position in (15, 16)], [None, None])
        language = language_of([("operators", "sum", "number", [("left", [("+", "plus")])], ("(", ")")),
                                ("node", "number", [("token", "number", "digits")])], "sum")
        answers = Answers(Project({"a": language}, {"m": ("a", "((1))")}))
        self.assertEqual([answers.hover("m", position) for position in range(6)], [None, None, (4, ()), None, None, None])
        self.assertEqual([answers.node_at("m", position) for position in range(6)], [0, 2, 4, 2, 0, None])


class ExplainTest(unittest.TestCase):
    def explained(self, texts, name, attribute):
        answers = answers_of(*texts, language="eval")
        row = [row for row, one in enumerate(answers.project.tree("m")) if one[3] == name][0]
        tree = {file: answers.project.tree(file) for file in answers.project.file_names()}
        return [(around, file, tree[file][one][3], name, value[1:]) for around, file, one, name, value
                in answers.explain("m", row, attribute)]

    def test_rows(self):
        self.assertEqual(self.explained(["show 1 + (2 + 3);"], "show", "total"), [
            (None, "m", "show", "total", (6,)), (0, "m", "plus", "worth", (6,)), (1, "m", "number", "worth", (1,)),
            (1, "m", "plus", "worth", (5,)), (3, "m", "number", "worth", (2,)), (3, "m", "number", "worth", (3,))])

    def test_nothing_that_is_read(self):
        self.assertEqual(self.explained([""], "file", "base"), [(None, "m", "file", "base", (7,))])

    def test_what_is_read_twice_is_listed_below_the_first_row(self):
        text = "let a = 1 + 1; show a + a;"
        self.assertEqual(self.explained([text], "show", "total"), [
            (None, "m", "show", "total", (4,)), (0, "m", "plus", "worth", (4,)), (1, "m", "name", "worth", (2,)),
            (2, "m", "let", "total", (2,)), (3, "m", "value", "worth", (2,)), (4, "m", "plus", "worth", (2,)),
            (5, "m", "number", "worth", (1,)), (5, "m", "number", "worth", (1,)), (1, "m", "name", "worth", (2,)),
            (8, "m", "let", "total", (2,))])

    def test_a_cyclic_one(self):
        self.assertEqual(self.explained(["let a = a;"], "let", "total"), [
            (None, "m", "let", "total", ()), (0, "m", "value", "worth", ()), (1, "m", "name", "worth", ()),
            (2, "m", "let", "total", ())])

    def test_several_files(self):
        self.assertEqual(self.explained(["use 'n'; show a;", "let a = 3;"], "name", "good"), [
            (None, "m", "name", "good", (False,)), (0, "n", "let", "good", (False,)), (1, "n", "let", "total", (3,)),
            (2, "n", "value", "worth", (3,)), (3, "n", "number", "worth", (3,)), (1, "n", "let", "level", (0,))])

    def test_no_instance(self):
        answers = answers_of("show (1);", language="eval")
        for row, attribute in ((-1, "told"), (99, "told"), (2, "told"), (3, "worth"), (0, "worth"), (0, "nothing")):
            self.assertEqual(raised(answers.explain, "m", row, attribute), ("NoInstance", {}))
        self.assertEqual(raised(answers.explain, "n", -1, "nothing"), ("NoFile", {"name": "n"}))


class ComparedTest(unittest.TestCase):
    """Everything is compared with another way to it, for random projects, some of them with broken texts."""

    def test_random_projects(self):
        met = {"uses": 0, "visible": 0, "hover": 0, "around": 0}
        for seed in range(30):
            rng = random.Random(seed)
            files = {}
            for file in "mno"[:rng.randint(1, 3)]:
                name = rng.choice(("open", "hidden", "eval", "eval", "open"))
                size = rng.choice((0, 40, 80))
                files[file] = (name, evaluating_text(rng, EVAL, size) if name == "eval" else naming_text(rng, OPEN, size))
            try:
                project = Project({"open": OPEN, "hidden": HIDDEN, "eval": EVAL}, files)
            except (TooLong, TooDeep):
                continue
            slow, answers = SlowAnswers(project), Answers(project)
            for file in project.file_names():
                self.assertEqual(answers.outline(file), slow.outline(file))
                met["around"] += any(row[0] is not None for row in answers.outline(file))
                size = len(project.text(file))
                for position in rng.sample(range(size + 1), min(size + 1, 20)):
                    for question in ("definition", "uses", "node_at", "hover"):
                        told = getattr(answers, question)(file, position)
                        self.assertEqual(told, getattr(slow, question)(file, position), (seed, file, position, question))
                        met[question] = met.get(question, 0) + (told is not None)
                    told = answers.visible(file, position, "values")
                    self.assertEqual(told, slow.visible(file, position, "values"), (seed, file, position))
                    met["visible"] += told != ()
                for instance in slow.instances.all[:30]:
                    if instance[0] == file:
                        self.assertEqual(answers.explain(*instance), slow.explain(*instance))
        self.assertTrue(all(number > 5 for number in met.values()), met)


if __name__ == "__main__":
    unittest.main()
