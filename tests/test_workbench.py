"""The workbench ([L3] to [L5]), and what is said of whole histories ([0.2])."""

import random
import unittest

from tongues.answers import Answers
from tongues.errors import TongueError
from tongues.languages import Language
from tongues.lookups import Names
from tongues.problems import problems
from tongues.projects import Project
from tongues.renaming import clashes
from tongues.saving import saving
from tongues.trees import tree_of
from tongues.workbench import FaultyLanguage, LanguageUsed, NameTaken, NoLanguage, Workbench, check_language
from tests.attributing import attributing
from tests.evaluating import CHECKS, EQUATIONS, evaluating
from tests.languages import LETS
from tests.modules import NAMES, RULES, modules
from tests.naming import PRIVATE, naming
from tests.raising import raised
from tests.randomtexts import evaluating_text, modules_files

OPEN, HIDDEN, EVAL, MODULES, PLAIN = naming(), naming(PRIVATE), evaluating(), modules(), Language(LETS)
FAULTY = {
    "grammar": Language({**LETS, "rules": LETS["rules"] + [("choice", "more", ["let", "let"])]}),
    "facts": modules(names=NAMES + [("declares", "nothing", "name", "values")]),
    "sections": evaluating(equations=EQUATIONS + [()]),
    "attributes": evaluating(equations=EQUATIONS[1:]),
    "imports": modules(imports=[()]),
    "definitions": modules(definitions=[()])}


def filled(**files):
    """A workbench with the language of imports and definitions, and files with these texts."""
    workbench = Workbench()
    workbench.set_language("a", MODULES)
    for name, text in files.items():
        workbench.open_file(name, "a", text)
    return workbench


def state(workbench):
    """All of which version and what files and texts there are."""
    project = workbench.project()
    return (workbench.version(), workbench.made_from(), project.files(), sorted(project.languages()))


def told(function, *arguments):
    """What a call returns or raises."""
    found = raised(function, *arguments)
    return function(*arguments) if found is None else found


class WorkbenchTest(unittest.TestCase):
    def fails(self, workbench, error, call, *arguments, **more):
        """That a call raises an error and changes nothing."""
        before, project = state(workbench), workbench.project()
        found = raised(lambda: call(*arguments, **more))
        self.assertEqual(found, error if isinstance(error, tuple) else (error, {}))
        self.assertEqual(state(workbench), before)
        self.assertIs(workbench.project(), project)


class CheckTest(WorkbenchTest):
    def test_the_errors(self):
        for error in (NoLanguage, LanguageUsed, NameTaken, FaultyLanguage):
            self.assertEqual(error.__bases__, (TongueError,))
        self.assertEqual(FaultyLanguage("grammar").reason, "grammar")

    def test_good_languages(self):
        for language in (OPEN, HIDDEN, EVAL, MODULES, PLAIN, Language(attributing())):
            self.assertIsNone(check_language(language))

    def check(self, language, error, **attributes):
        self.assertEqual(raised(check_language, language), (error, attributes))
        self.fails(filled(m="def b = 1;"), (error, attributes), Workbench.set_language, filled(), "b", language)
        workbench = filled(m="def b = 1;")
        self.fails(workbench, (error, attributes), workbench.set_language, "a", language)
        # Ahead of what is wrong with the name.
        self.fails(workbench, (error, attributes), workbench.set_language, "B", language)

    def test_each_way(self):
        self.check(FAULTY["grammar"], "FaultyLanguage", reason="grammar")
        self.check(FAULTY["facts"], "BadFact", number=len(NAMES), reason="node")
        self.check(FAULTY["sections"], "BadSection", section="equations", number=len(EQUATIONS), reason="length")
        self.check(FAULTY["attributes"], "FaultyLanguage", reason="attributes")
        self.check(FAULTY["imports"], "BadImport", number=0, reason="length")
        self.check(FAULTY["definitions"], "BadDefinition", number=0, reason="length")

    def test_the_order(self):
        faulty = {"names": NAMES + [("declares", "nothing", "name", "values")], "attributes": [()], "imports": [()],
                  "definitions": [()], "rules": RULES + [("choice", "more", ["def", "def"])]}
        for section, error, attributes in (
                ("rules", "FaultyLanguage", {"reason": "grammar"}), ("names", "BadFact", {"number": len(NAMES), "reason": "node"}),
                ("attributes", "BadSection", {"section": "attributes", "number": 0, "reason": "length"})):
            self.check(modules(**faulty), error, **attributes)
            del faulty[section]
        faulty["attributes"] = [("worth", "up", "integer", ["def"])]
        self.check(modules(**faulty), "FaultyLanguage", reason="attributes")
        del faulty["attributes"]
        self.check(modules(**faulty), "BadImport", number=0, reason="length")
        del faulty["imports"]
        self.check(modules(**faulty), "BadDefinition", number=0, reason="length")


class LanguagesTest(WorkbenchTest):
    def test_at_first(self):
        workbench = Workbench()
        self.assertEqual(state(workbench), (0, (None,), {}, []))
        self.assertIsInstance(workbench.project(), Project)

    def test_set_language(self):
        workbench = Workbench()
        self.assertEqual([workbench.set_language(name, OPEN) for name in "abcd"], [1, 2, 3, 4])
        self.fails(workbench, ("BadProject", {"name": None, "reason": "languages"}), workbench.set_language, "e", OPEN)
        self.assertEqual(workbench.set_language("a", HIDDEN), 5)
        self.assertEqual(workbench.project().languages(), {"a": HIDDEN, "b": OPEN, "c": OPEN, "d": OPEN})
        for name in ("", "A", "abcdefghijklm", "a1"):
            self.fails(Workbench(), ("BadProject", {"name": name, "reason": "name"}), Workbench().set_language, name, OPEN)

    def test_the_same_language_makes_a_version_too(self):
        workbench = filled()
        self.assertEqual((workbench.set_language("a", MODULES), workbench.made_from()), (2, (None, 0, 1)))

    def test_a_language_that_is_replaced_while_files_have_it(self):
        workbench = Workbench()
        workbench.set_language("a", OPEN)
        workbench.open_file("m", "a", "pull 'n'; show a;")
        workbench.open_file("n", "a", "var a;")
        self.assertEqual(workbench.problems("m"), ())
        self.assertEqual(workbench.set_language("a", HIDDEN), 4)
        self.assertEqual(workbench.problems("m"), ((15, 16, "nowhere", "a"),))
        self.assertEqual(workbench.set_language("a", PLAIN), 5)
        self.assertEqual(workbench.project().tree("n"), tree_of(PLAIN, "var a;"))
        workbench.undo()
        self.assertEqual(workbench.problems("m"), ((15, 16, "nowhere", "a"),))
        workbench.undo()
        self.assertEqual(workbench.problems("m"), ())

    def test_trees_that_a_new_language_does_not_have(self):
        workbench = Workbench()
        workbench.set_language("a", Language({**LETS, "tokens": [("word", "[a-z ]+"), *LETS["tokens"][1:]]}))
        workbench.open_file("m", "a", "a " * 201)
        self.fails(workbench, "TooLong", workbench.set_language, "a", PLAIN)

    def test_remove_language(self):
        workbench = Workbench()
        workbench.set_language("a", OPEN)
        workbench.set_language("b", HIDDEN)
        workbench.open_file("m", "b", "")
        self.fails(workbench, "NoLanguage", workbench.remove_language, "c")
        self.fails(workbench, "LanguageUsed", workbench.remove_language, "b")
        self.assertEqual(workbench.remove_language("a"), 4)
        self.fails(workbench, "NoLanguage", workbench.remove_language, "a")
        workbench.close_file("m")
        self.assertEqual(workbench.remove_language("b"), 6)
        self.assertEqual(state(workbench)[2:], ({}, []))


class FilesTest(WorkbenchTest):
    def test_open_file(self):
        workbench = Workbench()
        self.fails(workbench, ("BadProject", {"name": "m", "reason": "language"}), workbench.open_file, "m", "a", "")
        workbench.set_language("a", OPEN)
        self.assertEqual([workbench.open_file(name, "a", "var a;") for name in "mnopqr"], [2, 3, 4, 5, 6, 7])
        self.fails(workbench, ("BadProject", {"name": None, "reason": "files"}), workbench.open_file, "s", "a", "")
        self.assertEqual(workbench.project().file_names(), list("mnopqr"))
        # NameTaken comes first.
        self.fails(workbench, "NameTaken", workbench.open_file, "m", "x", "a" * 601)
        workbench = Workbench()
        workbench.set_language("a", OPEN)
        for name in ("", "M", "abcdefghijklm"):
            self.fails(workbench, ("BadProject", {"name": name, "reason": "name"}), workbench.open_file, name, "x", "a" * 601)
        self.fails(workbench, ("BadProject", {"name": "m", "reason": "language"}), workbench.open_file, "m", "x", "a" * 601)
        self.fails(workbench, "TooLong", workbench.open_file, "m", "a", "a" * 601)
        self.fails(workbench, "TooLong", workbench.open_file, "m", "a", "$" * 201)
        self.fails(workbench, "TooDeep", workbench.open_file, "m", "a", "show " + "(" * 30)

    def test_close_file(self):
        workbench = filled(m="", n="")
        self.fails(workbench, ("NoFile", {"name": "x"}), workbench.close_file, "x")
        self.assertEqual(workbench.close_file("m"), 4)
        self.assertEqual(workbench.project().file_names(), ["n"])
        self.fails(workbench, ("NoFile", {"name": "m"}), workbench.close_file, "m")

    def test_rename_file(self):
        workbench = filled(m="use 'n'; show b;", n="def b = 1;")
        self.fails(workbench, ("NoFile", {"name": "x"}), workbench.rename_file, "x", "n")
        self.fails(workbench, ("NoFile", {"name": "x"}), workbench.rename_file, "x", "x")
        self.fails(workbench, "NameTaken", workbench.rename_file, "m", "n")
        self.fails(workbench, "NameTaken", workbench.rename_file, "m", "m")
        for name in ("", "M", "abcdefghijklm"):
            self.fails(workbench, ("BadProject", {"name": name, "reason": "name"}), workbench.rename_file, "m", name)
        self.assertEqual(workbench.definition("m", 14), (("n", 4, 5),))
        self.assertEqual(workbench.rename_file("n", "a"), 4)
        self.assertEqual(workbench.project().file_names(), ["a", "m"])
        self.assertEqual((workbench.definition("m", 14), workbench.problems("m")), ((), ((4, 7, "no file", "n"), (14, 15, "nowhere", "b"))))
        self.assertEqual((workbench.rename_file("a", "n"), workbench.definition("m", 14)), (5, (("n", 4, 5),)))

    def test_edit(self):
        workbench = filled(m="show b;", n="def c = 1;")
        self.assertEqual(workbench.edit({"n": ((4, 5, "b"),), "m": [[0, 0, "use 'n'; "]]}), 4)
        self.assertEqual({name: text for name, (_, text) in workbench.project().files().items()},
                         {"m": "use 'n'; show b;", "n": "def b = 1;"})
        self.assertEqual(workbench.definition("m", 14), (("n", 4, 5),))

    def test_edit_without_files_and_without_pieces(self):
        workbench = filled(m="show b;")
        self.assertEqual((workbench.edit({}), workbench.made_from()), (2, (None, 0, 1)))
        self.assertEqual((workbench.edit({"m": ()}), workbench.made_from()), (3, (None, 0, 1, 2)))
        self.assertEqual((workbench.edit({"m": ((5, 6, "b"),)}), workbench.project().text("m")), (4, "show b;"))

    def test_wrong_edits(self):
        workbench = filled(m="show b;", n="def c = 1;", o="")
        self.fails(workbench, ("NoFile", {"name": "x"}), workbench.edit, {"x": ((0, 99, ""),), "m": ()})
        for change, number, reason in (([(0, 99, "")], 0, "range"), ([(0, 1, ""), (1, 2, "")], 1, "order"), ([(1, 1, "")], 0, "nothing")):
            self.fails(workbench, ("BadChange", {"number": number, "reason": reason}), workbench.edit, {"m": change})
        # The first file by its name, whichever is first in the dict.
        self.fails(workbench, ("BadChange", {"number": 0, "reason": "range"}), workbench.edit, {"x": (), "n": [(0, 99, "")], "m": ()})
        self.fails(workbench, ("NoFile", {"name": "a"}), workbench.edit, {"n": [(0, 99, "")], "a": ()})
        self.fails(workbench, ("BadChange", {"number": 0, "reason": "nothing"}), workbench.edit,
                   {"o": [(0, 9, "")], "n": [(0, 0, "")], "m": [(0, 0, "a" * 600)]})
        # What is wrong with the new texts comes behind.
        self.fails(workbench, "TooLong", workbench.edit, {"m": [(0, 0, "a" * 600)], "n": [(0, 1, "")]})
        self.fails(workbench, "TooDeep", workbench.edit, {"n": [(8, 8, "(" * 30)]})

    def test_arguments_are_not_changed(self):
        changes = {"m": [[0, 0, "show 1; "]]}
        workbench = filled(m="show b;")
        workbench.edit(changes)
        self.assertEqual(changes, {"m": [[0, 0, "show 1; "]]})
        changes["m"][0][2] = "x"
        self.assertEqual(workbench.project().text("m"), "show 1; show b;")


class VersionsTest(WorkbenchTest):
    def test_undo_redo_and_go(self):
        workbench = filled(m="show b;")
        self.fails(Workbench(), "NothingToUndo", Workbench().undo)
        workbench.edit({"m": ((5, 6, "c"),)})
        self.fails(workbench, "NothingToRedo", workbench.redo)
        projects = [None, None, workbench.project()]
        self.assertEqual((workbench.undo(), workbench.version(), workbench.project().text("m")), (2, 2, "show b;"))
        self.assertEqual((workbench.redo(), workbench.project().text("m")), (3, "show c;"))
        self.assertIs(workbench.project(), projects[2])
        self.assertEqual((workbench.go(1), workbench.project().files()), (1, {}))
        for version in (-1, 4, 99):
            self.fails(workbench, "NoVersion", workbench.go, version)
        self.assertEqual(workbench.open_file("n", "a", "show d;"), 4)
        self.assertEqual(workbench.made_from(), (None, 0, 1, 2, 1))
        self.assertEqual((workbench.go(3), workbench.undo(), workbench.undo(), workbench.redo(), workbench.redo()), (3, 2, 1, 2, 3))
        self.assertEqual([workbench.undo() for _ in range(3)], [2, 1, 0])
        self.fails(workbench, "NothingToUndo", workbench.undo)
        self.assertEqual(state(workbench), (0, (None, 0, 1, 2, 1), {}, []))

    def test_an_error_does_not_forget_what_is_remembered(self):
        workbench = filled(m="show b;")
        workbench.undo()
        for call in ((workbench.open_file, "m", "x", ""), (workbench.close_file, "m"), (workbench.remove_language, "x"),
                     (workbench.edit, {"m": ()}), (workbench.rename, "m", 0, "b"), (workbench.inline, "m", 0)):
            self.assertIsNotNone(raised(*call))
        self.assertEqual(workbench.edit({}), 1)
        self.assertEqual((workbench.redo(), workbench.project().text("m")), (2, "show b;"))


class RefactoringTest(WorkbenchTest):
    def check(self, workbench, call, texts):
        """That a call makes one version, which can be undone and done again."""
        before = workbench.project()
        number = len(workbench.made_from())
        self.assertEqual((call(), workbench.version(), len(workbench.made_from())), (number, number, number + 1))
        after = workbench.project()
        self.assertEqual({name: text for name, (_, text) in after.files().items()}, texts)
        self.assertEqual(workbench.undo(), workbench.made_from()[number])
        self.assertIs(workbench.project(), before)
        self.assertEqual(workbench.redo(), number)
        self.assertIs(workbench.project(), after)

    def test_rename(self):
        workbench = filled(m="def b = 1; show b;", n="from m take b; show b;")
        self.check(workbench, lambda: workbench.rename("n", 20, "cd"), {"m": "def cd = 1; show cd;", "n": "from m take cd; show cd;"})
        # The same name: no version.
        self.assertEqual((workbench.rename("m", 4, "cd"), workbench.version()), (4, 4))
        self.fails(workbench, ("NoFile", {"name": "x"}), workbench.rename, "x", 4, "b")
        self.fails(workbench, ("NoOccurrence", {"file": "m", "position": 0}), workbench.rename, "m", 0, "b")
        self.fails(workbench, ("ReadOtherwise", {"file": "m", "position": 4}), workbench.rename, "m", 4, "b 1")
        workbench = filled(m="def b = 1; { def c = 1; show b; }")
        self.fails(workbench, ("LeadsElsewhere", {"file": "m", "position": 29}), workbench.rename, "m", 4, "c")
        self.assertEqual(workbench.clashes("m", 4, "c"), ((("m", 29, 30), "met"),))

    def test_a_renaming_beyond_the_limits_of_files(self):
        workbench = filled(m="def b = 1; show b;" + " show b;" * 11)
        self.fails(workbench, "TooLong", workbench.rename, "m", 4, "c" * 60)
        self.assertEqual(workbench.rename("m", 4, "c" * 30), 3)

    def test_move(self):
        workbench = filled(m="def b = 1; show b;", n="show 2;")
        self.check(workbench, lambda: workbench.move("m", 4, "n", 1, blank="\n"), {"m": "from n take b ;\nshow b;", "n": "show 2;\ndef b = 1;"})
        self.fails(workbench, ("NoFile", {"name": "x"}), workbench.move, "x", 4, "n", 0)
        self.fails(workbench, ("Refused", {"reason": "declaration", "file": "m", "position": 0}), workbench.move, "m", 0, "n", 0)
        workbench = filled(m="var b = 1; show b;", n="")
        self.fails(workbench, ("Differs", {"occurrence": ("m", 5, 6), "led": (("m", 4, 5),), "leads": ()}), workbench.move, "m", 4, "n", 0)

    def test_inline(self):
        workbench = filled(m="def b = 1 + 2; show b * b;", n="use 'm'; show b;")
        self.check(workbench, lambda: workbench.inline("n", 14), {"m": "show (1 + 2) * (1 + 2);", "n": "use 'm'; show 1 + 2;"})
        self.fails(workbench, ("NoFile", {"name": "x"}), workbench.inline, "x", 4)
        self.fails(workbench, ("Refused", {"reason": "occurrence", "file": "m", "position": 0}), workbench.inline, "m", 0)

    def test_extract(self):
        workbench = filled(m="show 1 + 2; show 1 + 2;", n="")
        self.check(workbench, lambda: workbench.extract("m", 5, 10, "q"), {"m": "def q = 1 + 2 ;show q; show 1 + 2;", "n": ""})
        workbench.undo()
        self.check(workbench, lambda: workbench.extract("m", 5, 10, "q", every=True, blank="\n"), {"m": "def q = 1 + 2 ;\nshow q; show q;", "n": ""})
        self.fails(workbench, ("NoFile", {"name": "x"}), workbench.extract, "x", 0, 1, "q")
        self.fails(workbench, ("Refused", {"reason": "expression", "file": "m", "position": 0}), workbench.extract, "m", 0, 9, "q")

    def test_it_is_made_from_the_present_version(self):
        workbench = filled(m="def b = 1; show b;")
        workbench.rename("m", 4, "c")
        workbench.undo()
        workbench.rename("m", 4, "d")
        self.assertEqual(workbench.made_from(), (None, 0, 1, 2, 2))
        self.assertEqual((workbench.undo(), workbench.redo(), workbench.project().text("m")), (2, 4, "def d = 1; show d;"))


class Fresh:
    """What is told of a project that is made from nothing."""

    def __init__(self, workbench):
        project = workbench.project()
        self.project = Project(project.languages(), project.files())
        self.answers = Answers(self.project)

    def ask(self, question, file, position, row, name):
        if question == "problems":
            return told(problems, self.answers, file)
        if question == "values":
            return told(self.answers.instances.values, file, row)
        if question in ("clashes", "saving"):
            return told({"clashes": clashes, "saving": saving}[question], self.project, file, position, name)
        arguments = (file,) if question == "outline" else (file, position, "values") if question == "visible" else (file, position)
        return told(getattr(self.answers, question), *arguments)


QUESTIONS = ("problems", "definition", "uses", "visible", "outline", "hover", "values", "clashes", "saving")


def asked(workbench, question, file, position, row, name):
    """What a workbench tells."""
    if question in ("problems", "outline"):
        return told(getattr(workbench, question), file)
    if question == "values":
        return told(workbench.values, file, row)
    more = {"visible": ("values",), "clashes": (name,), "saving": (name,)}.get(question, ())
    return told(getattr(workbench, question), file, position, *more)


class QuestionsTest(WorkbenchTest):
    def check(self, workbench, positions=None):
        fresh = Fresh(workbench)
        for file in workbench.project().file_names() + ["x"]:
            size = len(workbench.project().text(file)) if file != "x" else 2
            for position in positions or range(0, size + 1, 3):
                for question in QUESTIONS:
                    arguments = (file, min(position, size), position, "b")
                    self.assertEqual(asked(workbench, question, *arguments), fresh.ask(question, *arguments), (question, arguments))

    def test_every_question(self):
        workbench = Workbench()
        self.check(workbench)
        workbench.set_language("a", EVAL)
        workbench.set_language("b", MODULES)
        workbench.open_file("m", "a", "use 'n'; let b = 1 + c; { show b + b; let a = a; }")
        workbench.open_file("n", "a", "let c = 4; let c = 5; show c $")
        workbench.open_file("o", "b", "def b = 1; { def c = b; show c; } from m take b;")
        self.check(workbench)
        self.assertEqual(workbench.problems("m"), (
            (21, 22, "several", "c"), (26, 37, "check", "plus"), (38, 48, "cycle", "total")))
        for step in (workbench.undo, workbench.undo, workbench.redo, lambda: workbench.go(5), lambda: workbench.go(3),
                     lambda: workbench.go(5), lambda: workbench.set_language("a", evaluating(checks=CHECKS[:1])),
                     lambda: workbench.set_language("a", MODULES), workbench.undo, lambda: workbench.edit({"n": ((4, 5, "d"),)}),
                     lambda: workbench.rename("o", 4, "x"), workbench.undo, workbench.undo, workbench.redo):
            step()
            self.check(workbench)

    def test_the_errors(self):
        workbench = filled(m="show (b);")
        for question in QUESTIONS:
            self.assertEqual(asked(workbench, question, "x", 0, 0, "q"), ("NoFile", {"name": "x"}))
        self.assertEqual(raised(workbench.values, "m", 2), ("NoInstance", {}))
        self.assertEqual(raised(workbench.clashes, "m", 0, "q"), ("NoOccurrence", {"file": "m", "position": 0}))
        self.assertEqual(raised(workbench.saving, "m", 6, "q"), ("LeadsNowhere", {"file": "m", "position": 6}))

    def test_what_is_returned_may_be_changed(self):
        workbench = Workbench()
        workbench.set_language("a", EVAL)
        workbench.open_file("m", "a", "let b = 1;")
        values = workbench.values("m", 0)
        self.assertEqual(len(values), 4)
        values.clear()
        self.assertEqual(len(workbench.values("m", 0)), 4)
        workbench.project().files().clear()
        workbench.project().languages().clear()
        self.assertEqual(state(workbench)[2:], ({"m": ("a", "let b = 1;")}, ["a"]))


class HistoriesTest(WorkbenchTest):
    """Whatever a workbench has gone through, what it tells is what one tells that is given the present state at once."""

    LANGUAGES = {"eval": EVAL, "modules": MODULES, "open": OPEN}

    def rebuilt(self, workbench):
        project, other = workbench.project(), Workbench()
        for name, language in project.languages().items():
            other.set_language(name, language)
        for file, (language, text) in project.files().items():
            other.open_file(file, language, text)
        return other

    def check(self, workbench, rng):
        other = self.rebuilt(workbench)
        self.assertEqual(other.project().files(), workbench.project().files())
        names, other_names = Names(workbench.project()), Names(other.project())
        for file in workbench.project().file_names():
            tree = workbench.project().tree(file)
            self.assertEqual(tree, other.project().tree(file))
            self.assertEqual(workbench.problems(file), other.problems(file))
            for row in range(len(tree)):
                self.assertEqual(names.row_leads(file, row), other_names.row_leads(file, row))
                self.assertEqual(told(workbench.values, file, row), told(other.values, file, row))
            position = rng.randint(0, len(workbench.project().text(file)))
            for question in QUESTIONS:
                arguments = (file, position, position, rng.choice("abq"))
                self.assertEqual(asked(workbench, question, *arguments), asked(other, question, *arguments))

    def text(self, rng):
        if rng.random() < 0.3:
            return evaluating_text(rng, EVAL, 50)
        return rng.choice(list(modules_files(rng).values()))

    def step(self, workbench, rng):
        """A random step, which may fail; what it is called."""
        project = workbench.project()
        names = project.file_names()
        file = rng.choice(names or ["m"])
        text = project.text(file) if names else ""
        places = [row[4] for row in project.tree(file) if row[2] == "token" and row[1]] if names else []
        place = rng.choice(places or [0])
        rows = [row for row in project.tree(file) if row[2] == "node" and row[4] < row[5]] if names else []
        start, stop = rng.choice(rows)[4:] if rows else (0, 0)
        at = rng.randint(0, len(text))
        declared = [(other, one.start) for other, one in Names(project).occurrences() if one.role == "declares" and one.scope == 0]
        moved, moved_place = rng.choice(declared or [("m", 0)])
        steps = {
            "set": lambda: workbench.set_language(rng.choice("ab"), self.LANGUAGES[rng.choice(("modules", "modules", "eval", "open"))]),
            "remove": lambda: workbench.remove_language(rng.choice("ab")),
            "open": lambda: workbench.open_file(rng.choice("mno"), rng.choice("ab"), self.text(rng)),
            "close": lambda: workbench.close_file(file),
            "name": lambda: workbench.rename_file(file, rng.choice("mnop")),
            "edit": lambda: workbench.edit({file: ((at, min(len(text), at + rng.randint(0, 4)), rng.choice(("b", " ", ";", "show a ;"))),)}),
            "undo": workbench.undo, "redo": workbench.redo, "go": lambda: workbench.go(rng.randrange(len(workbench.made_from()))),
            "rename": lambda: workbench.rename(file, place, rng.choice("abcqz")),
            "move": lambda: workbench.move(moved, moved_place, rng.choice(names or ["m"]), rng.randint(0, 2), blank=" "),
            "inline": lambda: workbench.inline(file, place),
            "extract": lambda: workbench.extract(file, start, stop, rng.choice("qz"), every=rng.random() < 0.5)}
        word = rng.choice(list(steps) + ["open", "open", "edit", "rename", "rename", "move", "move", "move", "inline", "inline", "extract", "undo"])
        before, version = state(workbench), workbench.version()
        if raised(steps[word]) is not None:
            self.assertEqual(state(workbench), before)
            return None
        self.assertTrue(0 <= version < len(workbench.made_from()))
        return word

    def test_random_histories(self):
        met = {}
        for seed in range(20):
            rng = random.Random(seed)
            workbench = Workbench()
            workbench.set_language("a", MODULES)
            workbench.set_language("b", self.LANGUAGES[rng.choice(("modules", "eval"))])
            for file, text in modules_files(rng).items():
                workbench.open_file(file, "a", text)
            for number in range(40):
                word = self.step(workbench, rng)
                met[word] = met.get(word, 0) + 1
                if rng.random() < 0.5:
                    # Questions in between, so that answers are kept and have to be dropped.
                    for file in workbench.project().file_names():
                        workbench.problems(file)
                if number % 8 == 7:
                    self.check(workbench, rng)
        for word in ("set", "open", "close", "name", "edit", "undo", "redo", "go", "rename", "move", "inline", "extract"):
            self.assertIn(word, met)

    def test_names_lead_alike_behind_a_refactoring(self):
        """A renaming keeps what every name leads to: the places are shifted, and nothing else."""
        workbench = filled(m="def b = 1; show b; { def b = 2; show b; }", n="use 'm'; show b;")
        before = [workbench.project().tree(file) for file in "mn"]
        leads = [Names(workbench.project()).row_leads(file, row) for file, tree in zip("mn", before) for row in range(len(tree))]
        workbench.rename("m", 4, "abc")
        after = [workbench.project().tree(file) for file in "mn"]
        self.assertEqual([[row[:4] for row in tree] for tree in after], [[row[:4] for row in tree] for tree in before])
        self.assertEqual([Names(workbench.project()).row_leads(file, row) for file, tree in zip("mn", after) for row in range(len(tree))], leads)


if __name__ == "__main__":
    unittest.main()
