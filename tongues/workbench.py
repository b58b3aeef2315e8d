"""The workbench: a project with all its versions ([L3] to [L5])."""

from tongues.answers import Answers
from tongues.attributefaults import attribute_faults
from tongues.errors import TongueError
from tongues.facts import check_facts
from tongues.grammar import faults
from tongues.imports import check_imports
from tongues.inlining import extract, inline
from tongues.moving import move
from tongues.problems import problems
from tongues.projects import NoFile, Project
from tongues.renaming import clashes, rename
from tongues.saving import saving
from tongues.texts import apply_change, check_change
from tongues.versions import Versions


class NoLanguage(TongueError):
    """There is no language of this name."""


class LanguageUsed(TongueError):
    """A file has the language."""


class NameTaken(TongueError):
    """There is a file of this name."""


class FaultyLanguage(TongueError):
    """A language has faults: whether in its grammar or in its attributes."""

    def __init__(self, reason):
        self.reason = reason


def check_language(language):
    """Raises an error for the first thing that is wrong with a language."""
    if faults(language):
        raise FaultyLanguage("grammar")
    check_facts(language)
    if attribute_faults(language):
        raise FaultyLanguage("attributes")
    check_imports(language)


class Workbench:
    """Keeps all versions of a project, and answers questions about the present one."""

    def __init__(self):
        self._versions = Versions(Project({}, {}))
        self._answers = None

    def set_language(self, name, language):
        """Adds or replaces a language."""
        check_language(language)
        languages = self.project().languages()
        languages[name] = language
        return self._make(languages, self.project().files())

    def remove_language(self, name):
        """Removes a language that no file has."""
        languages, files = self.project().languages(), self.project().files()
        if name not in languages:
            raise NoLanguage("there is no language of this name")
        if name in [language for language, _ in files.values()]:
            raise LanguageUsed("a file has the language")
        del languages[name]
        return self._make(languages, files)

    def open_file(self, name, language, text):
        """Adds a file."""
        files = self.project().files()
        if name in files:
            raise NameTaken("there is a file of this name")
        files[name] = (language, text)
        return self._make(self.project().languages(), files)

    def close_file(self, name):
        """Removes a file."""
        files = self.project().files()
        if name not in files:
            raise NoFile(name)
        del files[name]
        return self._make(self.project().languages(), files)

    def rename_file(self, name, other):
        """Gives a file another name."""
        files = self.project().files()
        if name not in files:
            raise NoFile(name)
        if other in files:
            raise NameTaken("there is a file of this name")
        files[other] = files.pop(name)
        return self._make(self.project().languages(), files)

    def edit(self, changes):
        """Changes the texts of files."""
        project = self.project()
        for name in sorted(changes):
            check_change(project.text(name), changes[name])
        return self._change(changes)

    def undo(self):
        """Goes back to the version from which the present one was made."""
        return self._moved_to(self._versions.undo())

    def redo(self):
        """Goes to the version that the present one remembers."""
        return self._moved_to(self._versions.redo())

    def go(self, version):
        """Goes to a version."""
        return self._moved_to(self._versions.go(version))

    def rename(self, file, at, name):
        """Gives a declaration another name."""
        return self._change(rename(self.project(), file, at, name))

    def move(self, file, place, target, index, *, blank=""):
        """Moves a declaration to another file."""
        return self._change(move(self.project(), file, place, target, index, blank=blank))

    def inline(self, file, place):
        """Puts what a name stands for in place of its uses."""
        return self._change(inline(self.project(), file, place))

    def extract(self, file, start, stop, name, *, every=False, blank=""):
        """Gives an expression a name."""
        return self._change(extract(self.project(), file, start, stop, name, every=every, blank=blank))

    def project(self):
        """The project of the present version."""
        return self._versions.state()

    def version(self):
        """The number of the present version."""
        return self._versions.present

    def made_from(self):
        """The tuple of the numbers of the versions from which each one was made."""
        return self._versions.made_from()

    def problems(self, file):
        """The problems of a file."""
        return problems(self._present_answers(), file)

    def definition(self, file, position):
        """The declarations to which the occurrence at a position leads."""
        return self._present_answers().definition(file, position)

    def uses(self, file, position):
        """The references and listed names that lead to the declaration that is meant at a position."""
        return self._present_answers().uses(file, position)

    def visible(self, file, position, space):
        """The names that a reference at a position could have."""
        return self._present_answers().visible(file, position, space)

    def outline(self, file):
        """The declarations of a file."""
        return self._present_answers().outline(file)

    def hover(self, file, position):
        """The node around a position, and its values."""
        return self._present_answers().hover(file, position)

    def values(self, file, row):
        """The attributes of a node and their values."""
        return self._present_answers().instances.told_values(file, row)

    def clashes(self, file, at, name):
        """The occurrences with which a renaming clashes."""
        return clashes(self.project(), file, at, name)

    def saving(self, file, at, name):
        """The declarations that have to get names of their own for a renaming."""
        return saving(self.project(), file, at, name)

    def _present_answers(self):
        """The answers about the present project, which are kept until there is another one."""
        if self._answers is None:
            self._answers = Answers(self.project())
        return self._answers

    def _change(self, changes):
        """Makes a version with changed texts; none if there are no changes."""
        if not changes:
            return self.version()
        project = self.project()
        texts = {file: apply_change(project.text(file), changes[file]) for file in changes}
        return self._moved_to(self._versions.make(project.with_texts(texts)))

    def _make(self, languages, files):
        """Makes a version with languages and files."""
        return self._moved_to(self._versions.make(Project(languages, files, self.project())))

    def _moved_to(self, version):
        """The number of the version that is present now; what was found of another one is dropped."""
        self._answers = None
        return version
