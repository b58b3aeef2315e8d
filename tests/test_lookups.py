"""What names lead to ([G5] to [G13])."""

import random
import unittest

from tongues.errors import TongueError
from tongues.facts import check_facts
from tongues.grammar import faults
from tongues.languages import Language
from tongues.lookups import Names, NoOccurrence, asked, given_out, leads_to, occurrences_of, scopes_of
from tongues.projects import Project
from tests.languages import language_of
from tests.naming import PRIVATE, naming
from tests.raising import raised
from tests.randomtexts import naming_text
from tests.slownames import Slow

LANGUAGE = naming()
HIDDEN = naming(PRIVATE)


def project_of(*texts, **more):
    """A project with files m, n, .. of these texts, and others by their names."""
    files = {"mno"[number]: ("open", text) for number, text in enumerate(texts)}
    files.update({name: ("open", text) for name, text in more.items()})
    return Project({"open": LANGUAGE, "hidden": HIDDEN}, files)


def at(text, mark, number=0):
    """The position of the so-many-th mark in a text."""
    position = -1
    for _ in range(number + 1):
        position = text.index(mark, position + 1)
    return position


class LanguageTest(unittest.TestCase):
    def test_the_languages(self):
        for language in (LANGUAGE, HIDDEN):
            self.assertEqual(faults(language), [])
            self.assertIsNone(check_facts(language))

    def test_the_error(self):
        self.assertEqual(NoOccurrence.__bases__, (TongueError,))


class ScopesTest(unittest.TestCase):
    def scopes(self, text):
        return scopes_of(project_of(text), "m")

    def test_the_scope_of_the_file(self):
        self.assertEqual(self.scopes(""), ((0, 0, None, None),))
        self.assertEqual(self.scopes(" \n "), ((0, 3, None, None),))
        self.assertEqual(self.scopes("show 1;  "), ((0, 9, None, None),))

    def test_scopes_within_scopes(self):
        self.assertEqual(self.scopes(" {} { { } box a { } } { "), (
            (0, 24, None, None), (1, 3, "block", 0), (4, 21, "block", 0), (6, 9, "block", 2), (10, 19, "box", 2),
            (22, 23, "block", 0)))

    def test_fields_that_lie_outside(self):
        # No expression holds a scope here, so the fields that lie outside show in what lies there.
        text = "fun f : a #p { loop i to b { show c; } }"
        self.assertEqual(self.scopes(text), ((0, 40, None, None), (0, 40, "fun", 0), (15, 38, "loop", 1)))
        found = {name: scope for _, _, name, _, _, scope in occurrences_of(project_of(text), "m")}
        self.assertEqual(found, {"f": 0, "a": 0, "p": 1, "i": 2, "b": 1, "c": 2})

    def test_a_scope_in_a_field_that_lies_outside(self):
        language = language_of([
            ("node", "file", [("many", "outer", "outers")]),
            ("node", "outer", [("word", "("), ("maybe", "outer", "left"), ("word", ","), ("maybe", "outer", "right"),
                               ("word", ")"), ("token", "word", "name")])], "file",
            spaces=["v"], names=[("opens", "outer", "left"), ("refers", "outer", "name", "v")])
        self.assertEqual((faults(language), check_facts(language)), ([], None))
        project = Project({"a": language}, {"f": ("a", "((,)a,(,)b)c")})
        self.assertEqual(scopes_of(project, "f"), (
            (0, 12, None, None), (0, 12, "outer", 0), (1, 5, "outer", 0), (6, 10, "outer", 1)))
        self.assertEqual(occurrences_of(project, "f"), (
            (4, 5, "a", "v", "refers", 2), (9, 10, "b", "v", "refers", 3), (11, 12, "c", "v", "refers", 1)))

    def test_a_field_that_is_called_as_its_node(self):
        language = language_of([("node", "name", [("word", "!"), ("token", "word", "name"), ("token", "word", "other")])],
                               "name", spaces=["v"], names=[("opens", "name", "other"), ("refers", "name", "name", "v"),
                                                            ("refers", "name", "other", "v")])
        project = Project({"a": language}, {"f": ("a", "!a b")})
        self.assertEqual([row[5] for row in occurrences_of(project, "f")], [1, 0])

    def test_scopes_of_broken_texts(self):
        self.assertEqual(self.scopes("$ { $ box"), ((0, 9, None, None), (2, 9, "block", 0), (6, 9, "box", 1)))
        self.assertEqual(self.scopes("fun"), ((0, 3, None, None), (0, 3, "fun", 0)))

    def test_nodes_without_a_token(self):
        language = language_of([("node", "file", [("many", "item", "items")]), ("node", "item", [("word", "x")])],
                               "file", names=[("opens", "file")])
        for text, expected in (("", ()), ("  ", ()), ("x ", ((0, 1, "file", 0),)), (" $", ((1, 2, "file", 0),))):
            self.assertEqual(scopes_of(Project({"a": language}, {"f": ("a", text)}), "f"),
                             ((0, len(text), None, None),) + expected)

    def test_operators_that_open(self):
        language = language_of([
            ("operators", "sum", "atom", [("left", [("+", "plus")]), ("prefix", [("-", "minus")])], ("(", ")")),
            ("node", "atom", [("token", "word", "name")])], "sum",
            spaces=["v"], names=[("opens", "plus", "left"), ("opens", "minus"), ("refers", "atom", "name", "v")])
        self.assertEqual((faults(language), check_facts(language)), ([], None))
        project = Project({"a": language}, {"f": ("a", "(a + -b) + c")})
        self.assertEqual(scopes_of(project, "f"), (
            (0, 12, None, None), (0, 12, "plus", 0), (1, 7, "plus", 0), (5, 7, "minus", 2)))
        self.assertEqual([row[2:] for row in occurrences_of(project, "f")], [
            ("a", "v", "refers", 0), ("b", "v", "refers", 3), ("c", "v", "refers", 1)])


class OccurrencesTest(unittest.TestCase):
    def test_every_role(self):
        text = "let a = b; take n: c, box d, ren e as f; box g { var h; } show . i of in g;"
        self.assertEqual(occurrences_of(project_of(text), "m"), (
            (4, 5, "a", "values", "declares", 0), (8, 9, "b", "values", "refers", 0),
            (19, 20, "c", "values", "lists", 0), (26, 27, "d", "boxes", "lists", 0),
            (33, 34, "e", "values", "lists", 0), (38, 39, "f", "values", "declares", 0),
            (45, 46, "g", "boxes", "declares", 0), (53, 54, "h", "values", "declares", 1),
            (65, 66, "i", "values", "refers", 0), (73, 74, "g", "boxes", "refers", 0)))

    def test_what_is_missing_or_skipped_is_none(self):
        self.assertEqual(occurrences_of(project_of("let = 1 a b; show"), "m"), ())
        self.assertEqual(occurrences_of(project_of("$ a let b } = d;"), "m"),
                         ((8, 9, "b", "values", "declares", 0), (14, 15, "d", "values", "refers", 0)))
        self.assertEqual(occurrences_of(project_of(""), "m"), ())

    def test_the_scopes_of_declarations(self):
        text = "fun f : a #b { loop i to c { let d = e; } fun g { } }"
        self.assertEqual([row[2:] for row in occurrences_of(project_of(text), "m")], [
            ("f", "values", "declares", 0), ("a", "values", "refers", 0), ("b", "values", "declares", 1),
            ("i", "values", "declares", 2), ("c", "values", "refers", 1), ("d", "values", "declares", 2),
            ("e", "values", "refers", 2), ("g", "values", "declares", 1)])

    def test_tokens_of_files_are_none(self):
        self.assertEqual(occurrences_of(project_of("pull 'a'; push 'b'; take c:; hand d:;"), "m"), ())


class InOneFileTest(unittest.TestCase):
    def check(self, text, expected):
        """To what declarations, told by their starts, each of the names behind show, in order, leads."""
        project = project_of(text)
        shown = [row for row in occurrences_of(project, "m") if row[4] == "refers"]
        self.assertEqual([[start for _, start, _ in leads_to(project, "m", row[0])] for row in shown], expected)

    def test_the_scope_and_those_around(self):
        self.check("var a; { show a; var b; { show b; show a; show c; } } show b;", [[4], [21], [4], [], []])
        self.check("var a; { var a; show a; } show a;", [[4 + 9], [4]])
        self.check("{ show a; { var a; } }", [[]])

    def test_several_declarations_of_one_name(self):
        self.check("var a; show a; var a; { var a; show a; var a; }", [[4, 19], [28, 43]])

    def test_spaces(self):
        self.check("box a { } show a; show in a; var a;", [[33], [4]])

    def test_behind(self):
        self.check("show a; let a = a; show a;", [[], [], [12]])
        self.check("let a = 1; { show a; let a = a; show a; }", [[4], [4], [25]])
        # The end of its node, not of its name; a token may begin exactly there.
        self.check("let a = a;show a;", [[], [4]])
        language = language_of([("node", "file", [("many", "item", "items")]), ("choice", "item", ["one", "use"]),
                                ("node", "one", [("word", "="), ("token", "word", "name"), ("word", "!")]),
                                ("node", "use", [("token", "word", "name")])], "file", spaces=["v"],
                               names=[("declares", "one", "name", "v", "behind"), ("refers", "use", "name", "v")])
        project = Project({"a": language}, {"f": ("a", "a=a!a")})
        self.assertEqual(leads_to(project, "f", 0), ())
        self.assertEqual(leads_to(project, "f", 4), (("f", 2, 3),))
        self.assertEqual(leads_to(project, "f", 2), (("f", 2, 3),))

    def test_own(self):
        self.check("show a; own a = a; show a;", [[], [12], [12]])
        self.check("own a = 1; { show a; own a = a; show a; }", [[4], [25], [25]])

    def test_inside(self):
        self.check("loop a to a { show a; } show a;", [[], [5], []])
        self.check("var a; loop a to a { show a; { show a; } } show a;", [[4], [12], [12], [4]])

    def test_gives_makes_no_difference_in_the_file(self):
        self.check("own a = 1; var b; show a; show b;", [[4], [15]])

    def test_a_declaration_leads_to_those_of_its_scope(self):
        text = "let a = 1; own a = 2; { let a = 1; } let a = 3; box a { }"
        project = project_of(text)
        for start, expected in ((4, [4, 15, 41]), (15, [4, 15, 41]), (28, [28]), (41, [4, 15, 41]), (52, [52])):
            self.assertEqual(leads_to(project, "m", start), tuple([("m", one, one + 1) for one in expected]))
            self.assertEqual(asked(project, "m", start), (("member", "m", 1 if start == 28 else 0),))
        project = project_of("var a; loop a to 1 { var a; }")
        self.assertEqual(leads_to(project, "m", 12), (("m", 12, 13), ("m", 25, 26)))

    def test_posts(self):
        project = project_of("{ { show a; var b; show b; } }")
        self.assertEqual(asked(project, "m", 9), (("scope", "m", 2), ("scope", "m", 1), ("scope", "m", 0)))
        self.assertEqual(asked(project, "m", 24), (("scope", "m", 2),))

    def test_every_character_of_an_occurrence(self):
        text = "var abc;show abc;"
        project = project_of(text)
        for position in (4, 5, 6, 13, 14, 15):
            self.assertEqual(leads_to(project, "m", position), (("m", 4, 7),))
        for position in (0, 3, 7, 8, 12, 16, 17, 18, 99, -1, -3, -4):
            for call in (leads_to, asked):
                self.assertEqual(raised(call, project, "m", position), ("NoOccurrence", {"file": "m", "position": position}))


    def test_names_that_are_called_as_flags(self):
        language = language_of([
            ("node", "file", [("many", "item", "items")]), ("choice", "item", ["one", "use", "pull", "push", "take"]),
            ("node", "one", [("word", "="), ("token", "word", "name"), ("many", "item", "items"), ("word", ";")]),
            ("node", "use", [("token", "word", "name")]), ("node", "pull", [("word", "pull"), ("token", "word", "whole")]),
            ("node", "push", [("word", "push"), ("token", "word", "quoted")]),
            ("node", "take", [("word", "take"), ("token", "word", "gives"), ("word", ":"), ("token", "word", "name")])],
            "file", spaces=["inside", "behind", "own", "gives"],
            names=[("opens", "one"), ("declares", "one", "name", "inside", "gives"), ("refers", "use", "name", "inside"),
                   ("brings", "pull", "whole"), ("brings", "take", "gives"), ("lists", "take", "name", "inside"),
                   ("brings", "push", "quoted", "whole")])
        self.assertEqual((faults(language), check_facts(language)), ([], None))
        # Declared in the scope in which the node lies, though the name lies in the one that it opens.
        project = Project({"a": language}, {"f": ("a", "=a b; a take g: c pull g"), "g": ("a", "=c; take f: a pull f"),
                                            "gg": ("a", "a c d pull g push f take g: d")})
        self.assertEqual([row[2:] for row in occurrences_of(project, "f")][:3], [
            ("a", "inside", "declares", 0), ("b", "inside", "refers", 1), ("a", "inside", "refers", 0)])
        self.assertEqual(leads_to(project, "f", 6), (("f", 1, 2),))
        self.assertEqual(asked(project, "f", 3), (("scope", "f", 1), ("scope", "f", 0)))
        self.assertEqual([given_out(project, "g", "inside", name) for name in "abc"], [(), (), (("g", 1, 2),)])
        self.assertEqual(leads_to(project, "gg", 0), (("f", 1, 2),))
        self.assertEqual(asked(project, "gg", 2), (("scope", "gg", 0), ("file", "f")))
        self.assertEqual(asked(project, "gg", 4), (("scope", "gg", 0), ("file", "g")))
        for space in ("behind", "own", "gives"):
            language = language_of(language.rules, "file", spaces=[space],
                                   names=[("declares", "one", "name", space), ("refers", "use", "name", space)])
            project = Project({"a": language}, {"f": ("a", "a =a a;")})
            self.assertEqual([leads_to(project, "f", at("a =a a;", "a", number)) for number in range(3)], [(("f", 3, 4),)] * 3)
            self.assertEqual(given_out(project, "f", space, "a"), ())

    def test_inside_though_the_name_lies_outside(self):
        language = language_of([
            ("node", "file", [("many", "one", "ones")]),
            ("node", "one", [("token", "word", "name"), ("word", "="), ("token", "word", "use")])], "file", spaces=["v"],
            names=[("opens", "one", "name"), ("declares", "one", "name", "v", "inside"), ("refers", "one", "use", "v")])
        project = Project({"a": language}, {"f": ("a", "a=a b=a")})
        self.assertEqual([row[2:] for row in occurrences_of(project, "f")], [
            ("a", "v", "declares", 1), ("a", "v", "refers", 1), ("b", "v", "declares", 2), ("a", "v", "refers", 2)])
        self.assertEqual((leads_to(project, "f", 2), leads_to(project, "f", 6)), ((("f", 0, 1),), ()))


class FilesTest(unittest.TestCase):
    def ways(self, project, file, position):
        return asked(project, file, position), [(name, start) for name, start, _ in leads_to(project, file, position)]

    def test_names_that_are_listed(self):
        project = project_of("take n: a; show a; show b;", "var a; var b;")
        self.assertEqual(self.ways(project, "m", 8), ((("file", "n"),), [("n", 4)]))
        self.assertEqual(self.ways(project, "m", 16), ((("scope", "m", 0), ("file", "n")), [("n", 4)]))
        self.assertEqual(self.ways(project, "m", 24), ((("scope", "m", 0),), []))

    def test_a_declaration_in_the_file_comes_ahead(self):
        project = project_of("take n: a; var a; show a; { take n: b; } show b;", "var a; var b;")
        self.assertEqual(self.ways(project, "m", 23), ((("scope", "m", 0),), [("m", 15)]))
        self.assertEqual(self.ways(project, "m", 46), ((("scope", "m", 0), ("file", "n")), [("n", 11)]))
        # One that is not seen from the token does not stand there.
        project = project_of("take n: a; show a; let a = 1;", "var a;")
        self.assertEqual(self.ways(project, "m", 16), ((("scope", "m", 0), ("file", "n")), [("n", 4)]))

    def test_listed_twice(self):
        project = project_of("take o: a; take n: a, a; show a;", "var a;", "var a; fun a { }")
        self.assertEqual(self.ways(project, "m", 30), ((("scope", "m", 0), ("file", "o"), ("file", "n")),
                                                      [("n", 4), ("o", 4), ("o", 11)]))

    def test_spaces_of_what_is_listed(self):
        project = project_of("take n: box a; show a; show in a;", "var a; box a { }")
        self.assertEqual(self.ways(project, "m", 20), ((("scope", "m", 0),), []))
        self.assertEqual(self.ways(project, "m", 31), ((("scope", "m", 0), ("file", "n")), [("n", 11)]))

    def test_another_name_for_what_is_listed(self):
        project = project_of("take n: ren a as b; show a; show b;", "var a; var b;")
        self.assertEqual(self.ways(project, "m", 12), ((("file", "n"),), [("n", 4)]))
        self.assertEqual(self.ways(project, "m", 25), ((("scope", "m", 0),), []))
        self.assertEqual(self.ways(project, "m", 33), ((("scope", "m", 0),), [("m", 17)]))
        self.assertEqual(given_out(project, "m", "values", "b"), (("m", 17, 18),))
        self.assertEqual(given_out(project, "m", "values", "a"), ())

    def test_a_name_of_a_file_that_is_missing_and_files_that_do_not_exist(self):
        project = project_of("take : a; show a; lone b; show b; take x: c; show c;", "var a; var b; var c;")
        self.assertEqual(self.ways(project, "m", 7), ((), []))
        self.assertEqual(self.ways(project, "m", 15), ((("scope", "m", 0), ("file", "")), []))
        self.assertEqual(self.ways(project, "m", 23), ((), []))
        self.assertEqual(self.ways(project, "m", 31), ((("scope", "m", 0), ("file", "")), []))
        self.assertEqual(self.ways(project, "m", 42), ((("file", "x"),), []))
        self.assertEqual(self.ways(project, "m", 50), ((("scope", "m", 0), ("file", "x")), []))

    def test_files_that_are_brought_whole(self):
        project = project_of("show a; pull 'n'; { pull 'o'; } push 'x'; pull '';", "var a;", "var a;")
        self.assertEqual(self.ways(project, "m", 5), (
            (("scope", "m", 0), ("file", "n"), ("file", "o"), ("file", "x"), ("file", "")), [("n", 4), ("o", 4)]))
        project = project_of("show a; pull ; pull 'n';", "var a;")
        self.assertEqual(self.ways(project, "m", 5), ((("scope", "m", 0), ("file", "n")), [("n", 4)]))

    def test_a_listed_name_keeps_files_from_being_looked_into_whole(self):
        project = project_of("take x: a; pull 'n'; show a; show b;", "var a; var b;")
        self.assertEqual(self.ways(project, "m", 26), ((("scope", "m", 0), ("file", "x")), []))
        self.assertEqual(self.ways(project, "m", 34), ((("scope", "m", 0), ("file", "n")), [("n", 11)]))

    def test_what_a_file_gives_out(self):
        project = project_of("pull 'n'; show a; show b; show c; show d;",
                             "own a = 1; { var b; } loop c to 1 { } var d; let d = 1;")
        self.assertEqual([self.ways(project, "m", position)[1] for position in (15, 23, 31, 39)],
                         [[], [], [], [("n", 42), ("n", 49)]])
        self.assertEqual(given_out(project, "n", "values", "d"), (("n", 42, 43), ("n", 49, 50)))
        for name in ("a", "b", "c", "e", ""):
            self.assertEqual(given_out(project, "n", "values", name), ())
        self.assertEqual(given_out(project, "n", "boxes", "d"), ())
        self.assertEqual(given_out(project, "n", "nothing", "d"), ())

    def test_what_is_handed_on(self):
        project = project_of("pull 'n'; show a; show b; show c; show d;",
                             "hand o: a; take o: b; push 'p'; pull 'o';", "var a; var b; var c;", p="var c; var b; var a;")
        self.assertEqual(self.ways(project, "m", 15), ((("scope", "m", 0), ("file", "n"), ("file", "o")), [("o", 4)]))
        # The listed name that is not handed on does not keep the file from being looked into that is.
        self.assertEqual(self.ways(project, "m", 23), ((("scope", "m", 0), ("file", "n"), ("file", "p")), [("p", 11)]))
        self.assertEqual(self.ways(project, "m", 31), ((("scope", "m", 0), ("file", "n"), ("file", "p")), [("p", 4)]))
        self.assertEqual(self.ways(project, "m", 39), ((("scope", "m", 0), ("file", "n"), ("file", "p")), []))
        self.assertEqual(self.ways(project, "n", 8), ((("file", "o"),), [("o", 4)]))

    def test_handed_on_with_another_name(self):
        project = project_of("pull 'n'; show a; show b;", "hand o: ren a as b; push 'o';", "var a;")
        self.assertEqual(self.ways(project, "m", 15), ((("scope", "m", 0), ("file", "n"), ("file", "o")), [("o", 4)]))
        self.assertEqual(self.ways(project, "m", 23), ((("scope", "m", 0), ("file", "n")), [("n", 17)]))

    def test_flags_in_another_order(self):
        rules = [("node", "file", [("many", "item", "items")]), ("choice", "item", ["one", "pull", "take", "use"]),
                 ("node", "one", [("word", "="), ("token", "word", "name")]), ("node", "use", [("token", "word", "name")]),
                 ("node", "pull", [("word", "pull"), ("token", "quote", "file")]),
                 ("node", "take", [("word", "take"), ("token", "quote", "file"), ("word", ":"), ("token", "word", "name")])]
        tokens = [("word", "[a-z]+"), ("quote", "'[a-z]*'"), ("blank", " ", None, None, True)]
        for pull, take in ((("whole", "gives", "quoted"), ("gives", "quoted")), (("gives", "quoted", "whole"), ("quoted", "gives")),
                           (("gives", "whole", "quoted"), ("gives", "quoted"))):
            names = [("brings", "pull", "file") + pull, ("brings", "take", "file") + take, ("lists", "take", "name", "v"),
                     ("declares", "one", "name", "v", "gives", "behind"), ("refers", "use", "name", "v")]
            language = Language({"tokens": tokens, "rules": rules, "start": "file", "spaces": ["v"], "names": names})
            self.assertEqual((faults(language), check_facts(language)), ([], None))
            project = Project({"a": language}, {"m": ("a", "pull 'n' a b"), "n": ("a", "take 'o': a pull 'p'"),
                                                "o": ("a", "=a =b"), "p": ("a", "=a =b")})
            self.assertEqual((leads_to(project, "m", 9), leads_to(project, "m", 11)), ((("o", 1, 2),), (("p", 4, 5),)))

    def test_circles(self):
        project = project_of("push 'n'; show a; show c;", "push 'o'; push 'n';", "push 'm'; var b;")
        self.assertEqual(self.ways(project, "m", 15), (
            (("scope", "m", 0), ("file", "n"), ("file", "o"), ("file", "m")), []))
        project = project_of("push 'm'; show a; let a = 1;")
        self.assertEqual(self.ways(project, "m", 15), ((("scope", "m", 0), ("file", "m")), [("m", 22)]))
        project = project_of("hand m: a; show a;")
        self.assertEqual(self.ways(project, "m", 8), ((("file", "m"),), []))
        self.assertEqual(self.ways(project, "m", 16), ((("scope", "m", 0), ("file", "m")), []))

    def test_posts_are_asked_in_the_order_in_which_they_become_known(self):
        project = project_of("show a; pull 'n'; pull 'o'; pull 'n';", "push 'p'; push 'o';", "push 'q';", p="push 'r';")
        self.assertEqual(self.ways(project, "m", 5), (
            tuple([("scope", "m", 0)] + [("file", name) for name in "nopqr"]), []))

    def test_a_declaration_ends_its_own_way_only(self):
        project = project_of("show a; pull 'n'; pull 'o';", "var a; push 'p';", "push 'p';", p="var a;")
        self.assertEqual(self.ways(project, "m", 5), (
            (("scope", "m", 0), ("file", "n"), ("file", "o"), ("file", "p")), [("n", 4), ("p", 4)]))

    def test_several_languages(self):
        text = "pull 'n'; show a; take o: b; show b;"
        project = Project({"open": LANGUAGE, "hidden": HIDDEN}, {
            "m": ("open", text), "n": ("hidden", "var a; push 'o';"), "o": ("open", "var a; var b;")})
        self.assertEqual(self.ways(project, "m", at(text, "a;")), ((("scope", "m", 0), ("file", "n")), []))
        self.assertEqual(self.ways(project, "m", at(text, "b;", 1)), ((("scope", "m", 0), ("file", "o")), [("o", 11)]))
        self.assertEqual(given_out(project, "n", "values", "a"), ())

    def test_no_file(self):
        project = project_of("var a;")
        for call in (lambda: scopes_of(project, "x"), lambda: occurrences_of(project, "x"),
                     lambda: leads_to(project, "x", 4), lambda: asked(project, "x", -1),
                     lambda: given_out(project, "x", "values", "a"), lambda: Names(project).row_leads("x", 0)):
            self.assertEqual(raised(call), ("NoFile", {"name": "x"}))


class WithinTest(unittest.TestCase):
    def ways(self, text, mark, *more):
        project = project_of(text, *more)
        position = at(text, mark)
        return asked(project, "m", position), [(name, start) for name, start, _ in leads_to(project, "m", position)]

    BOX = "box b { var x; let y = 1; { var z; } } "

    def test_what_is_found_in_the_child(self):
        scope, member = (("scope", "m", 0),), ("member", "m", 1)
        self.assertEqual(self.ways(self.BOX + "show . x of in b;", "x of"), (scope + (member,), [("m", 12)]))
        # All that is declared in it, seen from the token or not; nothing in scopes within or around.
        self.assertEqual(self.ways("show . y of in b; " + self.BOX, "y of"), (scope + (member,), [("m", 37)]))
        self.assertEqual(self.ways(self.BOX + "show . z of in b;", "z of"), (scope + (member,), []))
        self.assertEqual(self.ways(self.BOX + "var v; show . v of in b;", "v of"), (scope + (member,), []))

    def test_brackets(self):
        for inner in ("[in b]", "[[in b]]", "[ [ [in b ] ] ]"):
            self.assertEqual(self.ways(self.BOX + f"show . x of {inner};", "x of")[1], [("m", 12)])
        self.assertEqual(self.ways(self.BOX + "show . x of [];", "x of"), ((), []))
        self.assertEqual(self.ways(self.BOX + "show . x of [[", "x of"), ((), []))

    def test_no_child_and_a_child_without_an_own_reference(self):
        for inner in (";", "1;", "~in b;", "[~in b];", "in;", ""):
            self.assertEqual(self.ways(self.BOX + "show . x of " + inner, "x of"), ((), []))

    def test_an_own_reference_to_nothing_or_to_several(self):
        self.assertEqual(self.ways("show . x of in b;", "x of"), ((("scope", "m", 0),), []))
        self.assertEqual(self.ways(self.BOX * 2 + "show . x of in b;", "x of"), ((("scope", "m", 0),), []))

    def test_a_declaration_that_is_no_scope(self):
        self.assertEqual(self.ways("var b; show . x of b;", "x of"), ((("scope", "m", 0),), []))
        # A function is one, what it is called by is declared around it.
        self.assertEqual(self.ways("fun f #x { var y; } show . x of f;", "x of"),
                         ((("scope", "m", 0), ("member", "m", 1)), [("m", 7)]))
        self.assertEqual(self.ways("fun f #x { var y; } show . f of f;", "f of"),
                         ((("scope", "m", 0), ("member", "m", 1)), []))

    def test_a_child_in_another_file(self):
        self.assertEqual(self.ways("take n: box b; show . x of in b;", "x of", "{ } " + self.BOX), (
            (("scope", "m", 0), ("file", "n"), ("member", "n", 2)), [("n", 16)]))

    def test_references_within_references(self):
        text = "fun f { fun g { var h; } } show . h of . g of f;"
        self.assertEqual(self.ways(text, "h of"), (
            (("scope", "m", 0), ("member", "m", 1), ("member", "m", 2)), [("m", 20)]))
        self.assertEqual(self.ways(text, "g of"), ((("scope", "m", 0), ("member", "m", 1)), [("m", 12)]))
        self.assertEqual(self.ways(text.replace("of f", "of x"), "h of"), ((("scope", "m", 0),), []))

    def test_a_post_that_is_told_twice(self):
        text = "fun f { fun f { } show . f of . f of f; }"
        self.assertEqual(self.ways(text, "f of f"), ((("scope", "m", 1), ("member", "m", 2)), []))
        text = "loop i to 1 { show . i of i; }"
        self.assertEqual(self.ways(text, "i of"), ((("scope", "m", 1), ("member", "m", 1)), [("m", 5)]))
        text = "loop i to 1 { show . i of . i of i; }"
        self.assertEqual(self.ways(text, "i of ."), ((("scope", "m", 1), ("member", "m", 1), ("member", "m", 1)), [("m", 5)]))

    def test_the_first_reference_that_is_not_missing(self):
        rules = [("node", "file", [("many", "item", "items")]), ("choice", "item", ["box", "dot"]),
                 ("node", "box", [("word", "box"), ("token", "word", "name"), ("many", "box", "boxes"), ("word", ";")]),
                 ("node", "dot", [("word", "."), ("token", "word", "name"), ("maybe", "pair", "pair")]),
                 ("node", "pair", [("word", "("), ("token", "word", "first"), ("word", ","), ("token", "word", "second"),
                                   ("word", ")")])]
        names = [("opens", "box", "name"), ("declares", "box", "name", "v"), ("refers", "dot", "name", "v", "pair"),
                 ("refers", "pair", "second", "v"), ("refers", "pair", "first", "v")]
        language = language_of(rules, "file", spaces=["v"], names=names)
        self.assertEqual((faults(language), check_facts(language)), ([], None))
        boxes = "box a box x ; ; box b box x ; ; "
        for rest, expected in ((". x (a, b)", 26), (". x (b, a)", 10), (". x (a, )", 10), (". x (a)", 10), (". x (, a)", 10),
                               (". x (c, a)", 10), (". x (a, c)", None), (". x ( , )", None), (". x", None)):
            text = boxes + rest
            project = Project({"a": language}, {"m": ("a", text)})
            self.assertEqual(leads_to(project, "m", text.rindex("x")), (("m", expected, expected + 1),) if expected else ())


    def test_what_declares_or_lists_is_no_own_reference(self):
        rules = [("node", "file", [("many", "item", "items")]), ("choice", "item", ["box", "dot"]),
                 ("node", "box", [("word", "box"), ("token", "word", "name"), ("many", "box", "boxes"), ("word", ";")]),
                 ("node", "dot", [("word", "."), ("token", "word", "name"), ("word", "of"), ("child", "pair", "pair")]),
                 ("node", "pair", [("token", "word", "first"), ("maybe", "rest", "rest"), ("token", "word", "second")]),
                 ("node", "rest", [("word", ",")])]
        for word in ("declares", "lists"):
            names = [("opens", "box", "name"), ("declares", "box", "name", "v"), ("refers", "dot", "name", "v", "pair"),
                     (word, "pair", "first", "w"), ("refers", "pair", "second", "v")]
            language = language_of(rules, "file", spaces=["v", "w"], names=names)
            self.assertEqual((faults(language), check_facts(language)), ([], None))
            text = "box a box x ; ; box b box x ; ; . x of a, b"
            project = Project({"a": language}, {"m": ("a", text)})
            self.assertEqual(leads_to(project, "m", text.rindex("x")), (("m", 26, 27),))
            project = Project({"a": language}, {"m": ("a", text[:-1])})
            self.assertEqual(leads_to(project, "m", text.rindex("x")), ())


class NamesTest(unittest.TestCase):
    def test_rows(self):
        text = "var a; show a; show b; let = 1;"
        project = project_of(text, "take m: a;")
        names = Names(project)
        tree = project.tree("m")
        found = {row: names.row_leads("m", row) for row in range(-1, len(tree) + 1)}
        self.assertEqual({row: leads for row, leads in found.items() if leads}, {3: (("m", 3),), 8: (("m", 3),)})
        self.assertEqual(set(found.values()), {(), (("m", 3),)})
        self.assertEqual(tree[3][4:], (4, 5))
        self.assertEqual([names.row_leads("n", row) for row, one in enumerate(project.tree("n")) if one[1] == "name"],
                         [(("m", 3),)])

    def test_several_are_told_in_order(self):
        project = project_of("take n: a; take m: a; show a;", "var a; var a;")
        names = Names(project)
        rows = [row for row, one in enumerate(project.tree("n")) if one[1] == "name"]
        shown = [row for row, one in enumerate(project.tree("m")) if one[1] == "name"][-1]
        self.assertEqual(names.row_leads("m", shown), (("n", rows[0]), ("n", rows[1])))
        self.assertEqual(names.row_leads("m", shown), (("n", rows[0]), ("n", rows[1])))


class ComparedTest(unittest.TestCase):
    """Everything is compared with another way to it, for random projects, some of them with broken texts."""

    def check(self, project):
        slow, names = Slow(project), Names(project)
        met = {"leads": 0, "within": 0}
        for file in project.file_names():
            scopes = slow.scopes(file)
            tree = project.tree(file)
            told = scopes_of(project, file)
            self.assertEqual(told, ((0, len(project.text(file)), None, None),) + tuple(
                [tree[row][4:] + (tree[row][3], slow.number(file, slow.lies(file, row))) for row in scopes[1:]]))
            rows = slow.occurrences(file)
            self.assertEqual(occurrences_of(project, file), tuple([
                tree[row][4:] + (slow.text(file, row), slow.fact(file, row)[3], slow.fact(file, row)[0],
                                 slow.number(file, slow.scope_of(file, row))) for row in rows]))
            for row in range(len(tree)):
                posts, leads = slow.leads(file, row)
                self.assertEqual(names.row_leads(file, row), tuple(leads))
                if row in rows:
                    places = tuple([(other, *project.tree(other)[one][4:]) for other, one in leads])
                    self.assertEqual(leads_to(project, file, tree[row][4]), places)
                    self.assertEqual(asked(project, file, tree[row][5] - 1), tuple(posts))
                    met["leads"] += len(leads) > 0 and leads != [(file, row)]
                    met["within"] += len(slow.fact(file, row)) == 5 and len(leads) > 0 \
                        and slow.fact(file, row)[0] == "refers"
            for name in "mnop":
                found = slow.search(("file", file), "values", name, 0)[1]
                self.assertEqual(given_out(project, file, "values", name),
                                 tuple([(other, *project.tree(other)[one][4:]) for other, one in found]))
        return met

    def test_random_projects(self):
        total = {"leads": 0, "within": 0}
        for seed in range(40):
            rng = random.Random(seed)
            languages = {"open": LANGUAGE, "hidden": HIDDEN}
            files = {name: (rng.choice(("open", "open", "open", "hidden")), naming_text(rng, LANGUAGE, rng.choice((0, 60, 200))))
                     for name in "mno"[:rng.randint(1, 3)]}
            for key, number in self.check(Project(languages, files)).items():
                total[key] += number
        self.assertGreater(total["leads"], 100, total)
        self.assertGreater(total["within"], 0, total)


if __name__ == "__main__":
    unittest.main()
