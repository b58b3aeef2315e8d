"""Renaming, and what it clashes with ([J4] to [J8])."""

import random
import unittest

from tongues.errors import TongueError
from tongues.languages import Language
from tongues.lookups import Names, NoOccurrence
from tongues.projects import NoFile, Project
from tongues.renaming import (LeadsElsewhere, LeadsNowhere, LeadsToOthers, LeadsToSeveral, ReadOtherwise,
                              RenamingError, clashes, rename)
from tongues.saving import saving
from tongues.texts import apply_change
from tests.naming import PRIVATE, SECTIONS, naming
from tests.raising import raised, told
from tests.randomtexts import naming_text
from tests.slowrenaming import SlowRenaming, Wrong

OPEN, HIDDEN = naming(), naming(PRIVATE)


def project_of(*texts, language="open"):
    return Project({"open": OPEN, "hidden": HIDDEN},
                   {"mnopqr"[number]: (language, text) for number, text in enumerate(texts)})


def renamed(project, file, at, name):
    """The texts of all files after a renaming."""
    changes = rename(project, file, at, name)
    return [apply_change(project.text(one), changes.get(one, ())) for one in project.file_names()]


class ErrorsTest(unittest.TestCase):
    def check(self, texts, file, at, name, error, *place, language="open"):
        """That all three functions raise an error with this file and position."""
        project = project_of(*texts, language=language)
        for function in (rename, clashes, saving):
            found = raised(function, project, file, at, name)
            self.assertEqual(found, (error, dict(zip(("file", "position"), place))), function)

    def test_the_classes(self):
        self.assertEqual(RenamingError.__bases__, (TongueError,))
        for error in (LeadsNowhere, LeadsToSeveral, LeadsToOthers, ReadOtherwise, LeadsElsewhere):
            self.assertEqual(error.__bases__, (RenamingError,))
        error = LeadsNowhere("m", 3)
        self.assertEqual((error.file, error.position), ("m", 3))
        self.assertEqual((NoFile.__bases__, NoOccurrence.__bases__), ((TongueError,), (TongueError,)))

    def test_no_file_and_no_occurrence(self):
        for function in (rename, clashes, saving):
            self.assertEqual(raised(function, project_of("var a;"), "x", 4, "b"), ("NoFile", {"name": "x"}))
        for at in (-1, 0, 3, 5, 6, 99):
            self.check(["var a;"], "m", at, "b", "NoOccurrence", "m", at)
        self.check(["var a;", "show a b;"], "n", 7, "b", "NoOccurrence", "n", 7)

    def test_leads_nowhere(self):
        self.check(["show abc;"], "m", 7, "b", "LeadsNowhere", "m", 5)
        self.check(["take x: a;"], "m", 8, "b", "LeadsNowhere", "m", 8)
        self.check(["", "show . x of (1);"], "n", 7, "b", "LeadsNowhere", "n", 7)

    def test_leads_to_several(self):
        self.check(["var abc; var abc;"], "m", 14, "b", "LeadsToSeveral", "m", 13)
        self.check(["var a; var a;", "pull 'm'; show a;"], "n", 15, "b", "LeadsToSeveral", "n", 15)

    def test_leads_to_others(self):
        text = "take n: a; take o: a; { show a; } show a;"
        self.check([text, "var a; show a;", "var a;"], "o", 4, "b", "LeadsToOthers", "m", 29)
        self.check([text, "var a; show a;", "var a;"], "m", 8, "b", "LeadsToOthers", "m", 29)
        # The file that is first, and within it the first position.
        self.check(["", "var a;", "var a;", "pull 'o'; pull 'n'; show a; show a;", "pull 'o'; show a; pull 'n';"],
                   "o", 4, "b", "LeadsToOthers", "p", 25)

    def test_read_otherwise(self):
        self.check(["var a; show a;"], "m", 4, "show", "ReadOtherwise", "m", 4)       # a word of the language
        self.check(["var a; show a;"], "m", 12, "b c", "ReadOtherwise", "m", 4)       # several tokens
        self.check(["var a; show a;"], "m", 4, "12", "ReadOtherwise", "m", 4)         # another kind
        self.check(["var a; show a;"], "m", 4, "$", "ReadOtherwise", "m", 4)          # a stray token
        self.check(["var a; show a;"], "m", 4, " a", "ReadOtherwise", "m", 3)         # the blank ahead is longer
        self.check(["var a; show a;"], "m", 4, "\n", "ReadOtherwise", "m", 3)
        self.check(["var a; show a;"], "m", 4, "'a", "ReadOtherwise", "m", 4)
        # Only where it touches something: "1a" is read as two tokens, "1" and "a".
        self.check(["show 1; var a;", "hand m: a , m b;"], "n", 8, "x y", "ReadOtherwise", "m", 12)

    def test_a_token_behind_is_read_otherwise(self):
        tokens = [("word", "[a-z]+"), ("sign", "[A-Z]"), ("pair", "Q[A-Z]"), ("blank", " ", None, None, True)]
        language = Language({
            "tokens": tokens, "start": "file", "spaces": ["v"],
            "rules": [("node", "file", [("many", "item", "items")]), ("choice", "item", ["var", "use", "other"]),
                      ("node", "var", [("word", "!"), ("token", "sign", "name")]),
                      ("node", "use", [("token", "sign", "name")]), ("node", "other", [("token", "pair", "name")])],
            "names": [("declares", "var", "name", "v"), ("refers", "use", "name", "v")]})
        project = Project({"a": language}, {"m": ("a", "!AAAA"), "n": ("a", "!B A B")})
        self.assertEqual(rename(project, "m", 1, "C"), {"m": ((1, 5, "CCCC"),)})
        for function in (rename, clashes, saving):
            # "!QQQQ" would be "!", "QQ", "QQ".
            self.assertEqual(raised(function, project, "m", 1, "Q"), ("ReadOtherwise", {"file": "m", "position": 1}))
        self.assertEqual(rename(project, "n", 1, "Q"), {"n": ((1, 2, "Q"), (5, 6, "Q"))})
        project = Project({"a": language}, {"n": ("a", "!B BA")})
        for function in (rename, clashes, saving):
            self.assertEqual(raised(function, project, "n", 1, "Q"), ("ReadOtherwise", {"file": "n", "position": 3}))

    def test_leads_elsewhere(self):
        def check(texts, at, name, *place):
            self.assertEqual(raised(rename, project_of(*texts), "m", at, name),
                             ("LeadsElsewhere", dict(zip(("file", "position"), place))))

        check(["var a; var b;"], 4, "b", "m", 4)                           # both lead to both then
        check(["var a; { var b; show a; }"], 4, "b", "m", 21)              # met
        check(["var a; { show b; }"], 4, "b", "m", 14)                     # what led nowhere
        check(["var aaa; show aaa; { show b; }"], 4, "b", "m", 26)         # the position is that before
        check(["var a; show 1;", "pull 'm'; { show b; } show a;"], 4, "b", "n", 17)
        # The first one by files, then by position.
        check(["box a { } { var q; show q; }", "pull 'm'; show in b; show in b;"], 4, "b", "n", 18)
        check(["{ var a; { var b; show a; show a; } } ", "show a;"], 6, "b", "m", 23)

    def test_the_order(self):
        # LeadsToOthers ahead of ReadOtherwise and of what would lead elsewhere in an earlier file.
        texts = ["pull 'n'; show a;", "var a;", "take n: a; take p: a; show a;", "var a;"]
        for name in ("b c", "b", "a", "q"):
            self.check(texts, "n", 4, name, "LeadsToOthers", "o", 27)
        # ReadOtherwise ahead of LeadsElsewhere in an earlier file.
        self.check(["show if; var a;"], "m", 13, "show", "ReadOtherwise", "m", 13)
        self.check(["var a; show b;", "show c;"], "m", 4, "b 1", "ReadOtherwise", "m", 4)

    def test_the_first_file_that_is_read_otherwise(self):
        self.check(["pull 'n'; show a;", "var a; show a;"], "n", 4, "1", "ReadOtherwise", "m", 15)


class RenameTest(unittest.TestCase):
    def test_all_occurrences_in_the_file(self):
        project = project_of("var a; show a + a; { show a; } box a { }")
        for at in (4, 12, 16, 26):
            self.assertEqual(rename(project, "m", at, "bcd"),
                             {"m": ((4, 5, "bcd"), (12, 13, "bcd"), (16, 17, "bcd"), (26, 27, "bcd"))})
        self.assertEqual(renamed(project, "m", 4, "b"), ["var b; show b + b; { show b; } box a { }"])

    def test_other_declarations_of_the_name_stay(self):
        self.assertEqual(renamed(project_of("var a; { var a; show a; } show a;"), "m", 13, "b"),
                         ["var a; { var b; show b; } show a;"])

    def test_the_same_name(self):
        project = project_of("var a; show a; { var b; show a; }")
        self.assertEqual(rename(project, "m", 4, "a"), {})
        self.assertEqual(clashes(project, "m", 4, "a"), ())
        self.assertEqual(saving(project, "m", 4, "a"), ())

    def test_a_name_that_stands_elsewhere(self):
        self.assertEqual(renamed(project_of("{ var b; show b; } var a; show a;", "var b; show b;"), "m", 23, "b"),
                         ["{ var b; show b; } var b; show b;", "var b; show b;"])
        self.assertEqual(renamed(project_of("box b { } var a; show a; show in b;"), "m", 14, "b"),
                         ["box b { } var b; show b; show in b;"])

    def test_several_files_in_order(self):
        project = project_of("take n: a, b; show a;", "var a; var b; show a;", "hand n: a; show a;", "take o: a;", "show a;")
        changes = rename(project, "p", 8, "xyz")
        self.assertEqual(list(changes), ["m", "n", "o", "p"])
        self.assertEqual(changes, {"m": ((8, 9, "xyz"), (19, 20, "xyz")), "n": ((4, 5, "xyz"), (19, 20, "xyz")),
                                   "o": ((8, 9, "xyz"), (16, 17, "xyz")), "p": ((8, 9, "xyz"),)})

    def test_listed_names_with_another_name(self):
        project = project_of("take n: ren a as b; show b;", "var a;")
        self.assertEqual(renamed(project, "n", 4, "x"), ["take n: ren x as b; show b;", "var x;"])
        self.assertEqual(renamed(project, "m", 12, "x"), ["take n: ren x as b; show b;", "var x;"])
        self.assertEqual(renamed(project, "m", 17, "x"), ["take n: ren a as x; show x;", "var a;"])
        # The listed name introduces nothing, so that its name may stand in the file already.
        self.assertEqual(renamed(project_of("take n: ren a as b; { show c; var c; }", "var a;"), "n", 4, "c"),
                         ["take n: ren c as b; { show c; var c; }", "var c;"])

    def test_names_that_touch(self):
        sections = {**SECTIONS, "tokens": [("word", "[a-z]"), *SECTIONS["tokens"][1:]],
                    "names": [*SECTIONS["names"]]}
        language = Language(sections)
        project = Project({"a": language}, {"m": ("a", "var a;show a+a;")})
        self.assertEqual(rename(project, "m", 4, "b"), {"m": ((4, 5, "b"), (11, 12, "b"), (13, 14, "b"))})
        pairs = Language({
            "tokens": [("letter", "[a-z]"), ("blank", " ", None, None, True)], "start": "file", "spaces": ["v"],
            "rules": [("node", "file", [("word", "!"), ("token", "letter", "name"), ("many", "use", "uses")]),
                      ("node", "use", [("token", "letter", "name")])],
            "names": [("declares", "file", "name", "v"), ("refers", "use", "name", "v")]})
        project = Project({"a": pairs}, {"m": ("a", "!aaab aaba a")})
        self.assertEqual(rename(project, "m", 1, "c"),
                         {"m": ((1, 4, "ccc"), (6, 8, "cc"), (9, 10, "c"), (11, 12, "c"))})

    def test_a_name_of_60_characters(self):
        name = "abcdefghijklmnopqrst" * 3
        self.assertEqual(renamed(project_of("var a; show a;"), "m", 4, name), [f"var {name}; show {name};"])

    def test_texts_that_get_longer_than_a_file_may_be(self):
        text = "var a; show " + " + ".join(["a"] * 60) + ";"
        name = "x" * 60
        project = project_of(text)
        changes = rename(project, "m", 4, name)
        self.assertEqual(len(apply_change(text, changes["m"])), len(text) + 61 * 59)
        self.assertEqual((clashes(project, "m", 4, name), saving(project, "m", 4, name)), ((), ()))
        self.assertEqual(raised(project.with_texts, {"m": apply_change(text, changes["m"])}), ("TooLong", {}))

    def test_broken_files(self):
        self.assertEqual(renamed(project_of("$ var a show ( a a"), "m", 6, "b"), ["$ var b show ( b a"])

    def test_names_that_are_seen_behind_their_own_node(self):
        self.assertEqual(renamed(project_of("let a = b; let b = a;"), "m", 15, "q"), ["let a = b; let q = a;"])
        # The first b leads nowhere; a is not seen there.
        self.assertEqual(renamed(project_of("let a = b;"), "m", 4, "b"), ["let b = b;"])
        self.assertEqual(raised(rename, project_of("own a = b;"), "m", 4, "b"), ("LeadsElsewhere", {"file": "m", "position": 8}))

    def test_references_within_a_child(self):
        project = project_of("box b { var x; } show . x of in b; var y;")
        self.assertEqual(renamed(project, "m", 12, "y"), ["box b { var y; } show . y of in b; var y;"])
        self.assertEqual(renamed(project, "m", 4, "c"), ["box c { var x; } show . x of in c; var y;"])

    def test_the_arguments_are_not_changed(self):
        project = project_of("var a;")
        rename(project, "m", 4, "b")["m"] = ()
        self.assertEqual(rename(project, "m", 4, "b"), {"m": ((4, 5, "b"),)})


class ClashesTest(unittest.TestCase):
    def check(self, texts, at, name, *expected, language="open"):
        """Clashes of a renaming in the file m, each as (file, start, word)."""
        project = project_of(*texts, language=language)
        found = clashes(project, "m", at, name)
        self.assertEqual(tuple((one[0], one[1], word) for one, word in found), expected)
        for (file, start, stop), _ in found:
            self.assertTrue(project.text(file)[start:stop].isalpha())

    def test_none(self):
        self.check(["var a; show a;"], 4, "b")
        self.check(["var a; { var b; show b; } show a;", "show b;"], 4, "b")
        self.check(["box b { } show in b; var a; show a;"], 25, "b")

    def test_met(self):
        self.check(["var a; { var b; show a; }"], 4, "b", ("m", 21, "met"))
        self.check(["var a; { let b = 1; show a; }"], 4, "b", ("m", 25, "met"))
        self.check(["var a; { show a; let b = 1; }"], 4, "b")
        # A listed name that would find another declaration, too.
        self.check(["let a = 1; box q { var b; } "], 4, "b")

    def test_met_by_another_declaration_in_the_same_scope(self):
        self.check(["var a; var b;"], 4, "b", ("m", 4, "met"), ("m", 11, "taken"))
        self.check(["var a; let b = 1; show a; show b;"], 4, "b",
                   ("m", 4, "met"), ("m", 11, "taken"), ("m", 23, "met"), ("m", 31, "taken"))

    def test_lost(self):
        """A listed name of the new name stands in the way, and leads nowhere."""
        self.check(["var a;", "pull 'm'; take x: b; show a;"], 4, "b", ("n", 26, "lost"))
        self.check(["var a;", "pull 'm'; take x: ren b as c; show a;"], 4, "b")
        # One that leads somewhere, and so does what is renamed then.
        self.check(["var a;", "pull 'm'; take o: b; show a;", "var b;"], 4, "b", ("n", 26, "met"))

    def test_taken(self):
        self.check(["var a; show b;"], 4, "b", ("m", 12, "taken"))
        self.check(["var b; { var a; show b; }"], 13, "b", ("m", 21, "taken"))
        # A declaration that is not seen from there does not stand in the way.
        self.check(["var b; { show b; let a = 1; }"], 21, "b")
        self.check(["var b; { show b; own a = b; }"], 21, "b", ("m", 25, "taken"))
        # Whatever is asked before: the first declaration of the name ends the search.
        self.check(["var a; { var b; { show b; } }"], 4, "b")

    def test_taken_in_files_brought_whole(self):
        self.check(["var a;", "pull 'm'; show b;"], 4, "b", ("n", 15, "taken"))
        self.check(["var a;", "push 'm';", "pull 'n'; show b; take n: b;"], 4, "b",
                   ("o", 15, "taken"), ("o", 26, "taken"))
        self.check(["var a;", "push 'm';", "pull 'n'; show b;"], 4, "b", ("o", 15, "taken"))
        self.check(["var a;", "pull 'm';", "pull 'n'; show b;"], 4, "b")
        self.check(["{ var a; }", "pull 'm'; show b;"], 6, "b")

    def test_taken_by_a_listed_name(self):
        # b was found by way of the file brought whole; the listed name that gets its name hides it.
        self.check(["var a;", "take m: a; pull 'o'; show b;", "var b;"], 4, "b", ("n", 26, "taken"))
        self.check(["var a;", "take m: ren a as q; pull 'o'; show b;", "var b;"], 4, "b")
        # Where something of the name stands, the listed name does not count.
        self.check(["var a;", "take m: a; var b; show b;"], 4, "b")

    def test_taken_by_a_listed_name_that_is_handed_on(self):
        self.check(["var a;", "hand m: a; push 'p';", "pull 'n'; show b;", "var b;"], 4, "b", ("o", 15, "taken"))
        self.check(["var a;", "take m: a; push 'p';", "pull 'n'; show b;", "var b;"], 4, "b")
        self.check(["var a;", "hand m: a; push 'p';", "take n: b;", "var b;"], 4, "b", ("o", 8, "taken"))

    def test_members(self):
        self.check(["box q { var a; } show . b of in q;"], 12, "b", ("m", 24, "taken"))
        self.check(["box q { var a; var b; } show . b of in q;"], 12, "b",
                   ("m", 12, "met"), ("m", 19, "taken"), ("m", 31, "taken"))
        # The first post is the one before the renaming, though the child's own reference is met.
        self.check(["box a { var x; } { box b { var y; } show . x of in a; }"], 4, "b", ("m", 51, "met"))

    def test_several_in_order(self):
        self.check(["{ var a; show b; { var b; show a; } }", "show b;", "pull 'm'; show b;"], 6, "b",
                   ("m", 14, "taken"), ("m", 31, "met"))
        self.check(["var a; show b; { var b; show a; }", "show b;", "pull 'm'; show b; take x: c;"], 4, "b",
                   ("m", 12, "taken"), ("m", 29, "met"), ("o", 15, "taken"))
        self.check(["var a; show b;", "pull 'm'; show a; take x: b;", "pull 'm'; { var b; show a; show b; } show b;"], 4, "b",
                   ("m", 12, "taken"), ("n", 15, "lost"), ("o", 24, "met"), ("o", 42, "taken"))

    def test_other_spaces(self):
        self.check(["box a { } show b; var b;"], 4, "b")
        self.check(["box a { } show in b;"], 4, "b", ("m", 18, "taken"))


class SavingTest(unittest.TestCase):
    def check(self, texts, at, name, *expected):
        """What saves a renaming in the file m, each as (file, start)."""
        self.assertEqual(tuple(one[:2] for one in saving(project_of(*texts), "m", at, name)), expected)

    def test_none_is_needed(self):
        self.check(["var a; show a;"], 4, "b")
        self.check(["var a; { var b; show b; } show a;"], 4, "b")

    def test_one(self):
        self.check(["var a; var b; show b;"], 4, "b", ("m", 11))
        self.check(["var a; { var b; show a; }"], 4, "b", ("m", 13))
        self.check(["var b; { var a; show b; }"], 13, "b", ("m", 4))
        self.check(["var a;", "take m: a; pull 'o'; show b;", "var b;"], 4, "b", ("o", 4))
        self.assertEqual(saving(project_of("var a; var b;"), "m", 4, "b"), (("m", 11, 12),))

    def test_several(self):
        self.check(["var a; { var b; { var b; show a; } }"], 4, "b", ("m", 13), ("m", 22))
        self.check(["var a; var b; { var b; show a; }", "pull 'm'; { var b; show a; }"], 4, "b",
                   ("m", 11), ("m", 20), ("n", 16))
        # Behind what is found first something else is found.
        self.check(["var b;", "pull 'm';"], 4, "c")
        self.check(["var a;", "take m: a; hand o: b; show b;", "var b;"], 4, "b", ("o", 4))

    def test_what_nothing_saves(self):
        for texts in (["var a; show b;"], ["var a; show b + b;"], ["var a;", "pull 'm'; take x: b; show a;"],
                      ["var a; { show b; }", "show b;"],
                      ["var a; var b;", "pull 'm'; pull 'o'; show b;", "var b;"]):
            self.assertIsNone(saving(project_of(*texts), "m", 4, "b"), texts)
        # The declaration could have a name of its own, but what leads to it and to another one could not.
        self.assertIsNone(saving(project_of("var a; { var b; var b; show b; show a; }"), "m", 4, "b"))

    def test_one_in_each_of_several_scopes(self):
        self.check(["var a; " + " ".join("{ var b; show a; }" for _ in range(3))], 4, "b", ("m", 13), ("m", 32), ("m", 51))

    def test_whether_a_language_could_write_the_names_does_not_matter(self):
        """Each name here is one of three letters, which all are there; b has to get another one all the same."""
        language = Language({**SECTIONS, "tokens": [("word", "[abc]"), *SECTIONS["tokens"][1:]]})
        project = Project({"a": language}, {"m": ("a", "var a; { var b; show a; } var c;")})
        self.assertEqual(saving(project, "m", 4, "b"), (("m", 13, 14),))


class ComparedTest(unittest.TestCase):
    """Everything is compared with another way to it: texts that are really changed, and all sets of declarations."""

    def slow(self, question, *arguments):
        try:
            return getattr(SlowRenaming(*arguments), question)()
        except Wrong as error:
            return error.args

    def place(self, rng, project):
        """A place of an occurrence, most often of one that leads to one declaration."""
        names = Names(project)
        places = [(file, one.start) for file, one in names.occurrences()]
        good = [(file, one.start) for file, one in names.occurrences() if len(names.row_leads(file, one.row)) == 1]
        return rng.choice(good if good and rng.random() < 0.7 else places or [("m", 0)])

    def test_random_projects(self):
        met = {}
        for seed in range(150):
            rng = random.Random(seed)
            files = {file: (rng.choice(("open", "open", "open", "hidden")), naming_text(rng, OPEN, rng.choice((0, 40, 70))))
                     for file in "mno"[:rng.randint(1, 3)]}
            project = Project({"open": OPEN, "hidden": HIDDEN}, files)
            if len([one for _, one in Names(project).occurrences() if one.role == "declares"]) > 6:
                continue
            for _ in range(4):
                arguments = (project, *self.place(rng, project), rng.choice("mnopmnopmnopxz") + rng.choice(("", "", "", " b", "1")))
                found = {function.__name__: told(function, *arguments) for function in (rename, clashes, saving)}
                for question, answer in found.items():
                    self.assertEqual(answer, self.slow(question, *arguments), (seed, question, arguments[1:], files))
                if isinstance(found["rename"], tuple):
                    met[found["rename"][0]] = True
                if found["rename"] == {} or raised(clashes, *arguments) is None:
                    met.update({word: True for _, word in found["clashes"]})
                    met["changes", len(found["rename"])] = met["saving", found["saving"] is None] = True
                # All three agree on whether anything would lead elsewhere.
                if isinstance(found["rename"], dict):
                    self.assertEqual((found["clashes"], found["saving"]), ((), ()))
                if isinstance(found["rename"], tuple) and found["rename"][0] == "LeadsElsewhere":
                    self.assertTrue(found["clashes"] and found["saving"] != ())
        for word in ("LeadsElsewhere", "LeadsNowhere", "LeadsToSeveral", "ReadOtherwise", "met", "taken",
                     ("changes", 0), ("changes", 1), ("saving", True), ("saving", False)):
            self.assertIn(word, met)


if __name__ == "__main__":
    unittest.main()
