"""Projects ([G4])."""

import unittest

from tongues.errors import TongueError, TooDeep, TooLong
from tongues.languages import Language
from tongues.projects import BadProject, NoFile, Project
from tongues.trees import tree_of
from tests.languages import CALCULUS, LETS, example
from tests.raising import raised

LET = example(LETS)
CALC = example(CALCULUS)
WRONG = Language({**LETS, "spaces": ["a", "a"]})
LONG = " " * 601


class ProjectsTest(unittest.TestCase):
    def wrong(self, name, reason, languages, files):
        self.assertEqual(raised(Project, languages, files), ("BadProject", {"name": name, "reason": reason}))

    def test_errors_are_own_ones(self):
        self.assertEqual((BadProject.__bases__, NoFile.__bases__), ((TongueError,), (TongueError,)))

    def test_nothing(self):
        project = Project({}, {})
        self.assertEqual(project.file_names(), [])
        self.assertEqual(Project({"let": LET}, {}).file_names(), [])

    def test_files(self):
        project = Project({"let": LET, "calc": CALC}, {"b": ("let", "show 1;"), "a": ["calc", "1"], "ab": ("let", "$")})
        self.assertEqual(project.file_names(), ["a", "ab", "b"])
        self.assertEqual([project.text(name) for name in ("a", "ab", "b")], ["1", "$", "show 1;"])
        self.assertIs(project.language("a"), CALC)
        self.assertIs(project.language("b"), LET)
        self.assertEqual(project.tree("a"), tree_of(CALC, "1"))
        self.assertEqual(project.tree("ab"), tree_of(LET, "$"))
        names = project.file_names()
        names.clear()
        self.assertEqual(project.file_names(), ["a", "ab", "b"])

    def test_how_many(self):
        letters = "abcdefg"
        files = {letter: ("a", "") for letter in letters}
        Project({letter: LET for letter in letters[:4]}, {letter: files[letter] for letter in letters[:6]})
        self.wrong(None, "languages", {letter: LET for letter in letters[:5]}, {})
        self.wrong(None, "files", {"a": LET}, files)

    def test_names(self):
        for name in ("", "A", "a1", "abcdefghijklm", "a b"):
            self.wrong(name, "name", {"a": LET, name: LET}, {})
            self.wrong(name, "name", {"a": LET}, {"a": ("a", ""), name: ("a", "")})
        Project({"abcdefghijkl": LET}, {"abcdefghijkl": ("abcdefghijkl", "")})
        self.wrong("A", "name", {"c": LET, "b1": LET, "A": LET}, {})
        self.wrong("b1", "name", {"c": LET}, {"c": ("c", ""), "d1": ("c", ""), "b1": ("c", "")})

    def test_facts(self):
        self.assertEqual(raised(Project, {"a": LET, "b": WRONG}, {}), ("BadFact", {"number": 1, "reason": "space"}))
        other = Language({**LETS, "names": [("nothing",)]})
        self.assertEqual(raised(Project, {"b": WRONG, "a": other}, {}), ("BadFact", {"number": 0, "reason": "word"}))
        self.assertEqual(raised(Project, {"a": WRONG, "b": other}, {}), ("BadFact", {"number": 1, "reason": "space"}))

    def test_languages_of_files(self):
        self.wrong("a", "language", {"let": LET}, {"b": ("", ""), "a": ("x", ""), "c": ("let", "")})
        self.wrong("b", "language", {}, {"b": ("let", "")})

    def test_trees(self):
        with self.assertRaises(TooLong):
            Project({"a": LET}, {"a": ("a", ""), "b": ("a", LONG)})
        with self.assertRaises(TooDeep):
            Project({"a": LET}, {"b": ("a", LONG), "a": ("a", "show " + "(" * 24)})
        with self.assertRaises(TooLong):
            Project({"a": LET}, {"a": ("a", LONG), "b": ("a", "show " + "(" * 24)})

    def test_the_order_of_the_errors(self):
        languages = {"A": WRONG, "b": LET, "c": LET, "d": LET, "e": LET}
        files = {name: ("x", LONG) for name in ("A", "b", "c", "d", "e", "f", "g")}
        self.wrong(None, "languages", languages, files)
        del languages["e"]
        self.wrong("A", "name", languages, files)
        languages["a"] = languages.pop("A")
        self.assertEqual(raised(Project, languages, files), ("BadFact", {"number": 1, "reason": "space"}))
        languages["a"] = LET
        self.wrong(None, "files", languages, files)
        del files["g"]
        self.wrong("A", "name", languages, files)
        files["a"] = ("a", LONG)
        del files["A"]
        self.wrong("b", "language", languages, files)
        files = {name: ("a", text) for name, (_, text) in files.items()}
        self.assertEqual(raised(Project, languages, files), ("TooLong", {}))

    def test_later_changes_of_the_dicts(self):
        languages, files = {"let": LET}, {"a": ["let", "show 1;"]}
        project = Project(languages, files)
        languages.clear()
        files["a"][1] = "x"
        files["b"] = ("let", "")
        self.assertEqual((project.file_names(), project.text("a")), (["a"], "show 1;"))
        self.assertIs(project.language("a"), LET)
        self.assertEqual(project.with_texts({}).file_names(), ["a"])

    def test_the_dicts_are_not_changed(self):
        languages, files = {"let": LET, "calc": CALC}, {"b": ("let", ""), "a": ("calc", "")}
        texts = {"b": "show 1;", "x": "y"}
        Project(languages, files).with_texts(texts)
        self.assertEqual((list(languages), list(files), texts), (["let", "calc"], ["b", "a"], {"b": "show 1;", "x": "y"}))

    def test_with_texts(self):
        project = Project({"let": LET, "calc": CALC}, {"a": ("let", "show 1;"), "b": ("calc", "1")})
        other = project.with_texts({"b": "2 + 3", "c": "x", "": LONG})
        self.assertEqual([other.text(name) for name in other.file_names()], ["show 1;", "2 + 3"])
        self.assertEqual(other.tree("b"), tree_of(CALC, "2 + 3"))
        self.assertIs(other.language("b"), CALC)
        self.assertEqual([project.text(name) for name in project.file_names()], ["show 1;", "1"])
        self.assertEqual(project.tree("b"), tree_of(CALC, "1"))
        self.assertEqual(project.with_texts({}).text("a"), "show 1;")
        for text, error in ((LONG, TooLong), ("1 " * 201, TooLong), ("(" * 30, TooDeep)):
            with self.assertRaises(error):
                project.with_texts({"b": text})

    def test_no_file(self):
        project = Project({"let": LET}, {"a": ("let", "")})
        for call in (project.language, project.text, project.tree):
            for name in ("b", "", "let"):
                self.assertEqual(raised(call, name), ("NoFile", {"name": name}))


if __name__ == "__main__":
    unittest.main()
