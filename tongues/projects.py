"""Projects: files in some languages ([G4])."""

from tongues.errors import TongueError
from tongues.facts import check_facts
from tongues.tokens import is_name
from tongues.trees import tree_of

MOST_LANGUAGES = 4
MOST_FILES = 6


class BadProject(TongueError):
    """A project is wrong: the name of a language or file, or None, and what is wrong."""

    def __init__(self, name, reason):
        self.name = name
        self.reason = reason


class NoFile(TongueError):
    """A project does not have a file: its name."""

    def __init__(self, name):
        self.name = name


class Project:
    """Languages and files by their names, with the trees of the files."""

    def __init__(self, languages, files, earlier=None):
        self._languages = {name: languages[name] for name in sorted(languages)}
        self._files = {name: tuple(files[name]) for name in sorted(files)}
        check_languages(self._languages)
        check_files(self._files, self._languages)
        self._trees = {name: self._made_tree(name, earlier) for name in self._files}

    def file_names(self):
        """The ascending list of the names of the files."""
        return list(self._files)

    def language(self, file):
        """The language of a file."""
        return self._languages[self._pair(file)[0]]

    def text(self, file):
        """The text of a file."""
        return self._pair(file)[1]

    def tree(self, file):
        """The tree of a file."""
        self._pair(file)
        return self._trees[file]

    def language_name(self, file):
        """The name of the language of a file."""
        return self._pair(file)[0]

    def languages(self):
        """A dict from the names of the languages, ascending, to the languages."""
        return {name: self._languages[name] for name in self._languages}

    def files(self):
        """A dict from the names of the files, ascending, to pairs (name of a language, text)."""
        return {name: self._files[name] for name in self._files}

    def with_texts(self, texts):
        """The project in which the files that are keys of a dict have the texts in it."""
        files = {name: (language, texts.get(name, text)) for name, (language, text) in self._files.items()}
        return Project(self._languages, files, self)

    def _made_tree(self, file, earlier):
        """The tree of a file; that of an earlier project, if it is the tree of the same text."""
        language, text = self.language(file), self.text(file)
        # A tree takes long to make, and most files stay as they are from one project to the next.
        if earlier is not None and file in earlier.file_names():
            if earlier.language(file) == language and earlier.text(file) == text:
                return earlier.tree(file)
        return tree_of(language, text)

    def _pair(self, file):
        """The name of the language of a file, and its text. Raises NoFile."""
        if file not in self._files:
            raise NoFile(file)
        return self._files[file]


def check_languages(languages):
    """Raises BadProject or BadFact for the first thing that is wrong with the languages."""
    if len(languages) > MOST_LANGUAGES:
        raise BadProject(None, "languages")
    check_names(languages)
    for language in languages.values():
        check_facts(language)


def check_files(files, languages):
    """Raises BadProject for the first thing that is wrong with the files, their texts aside."""
    if len(files) > MOST_FILES:
        raise BadProject(None, "files")
    check_names(files)
    for name, (language, _) in files.items():
        if language not in languages:
            raise BadProject(name, "language")


def check_names(names):
    """Raises BadProject for the first name of a language or file that is none."""
    for name in names:
        if not is_name(name):
            raise BadProject(name, "name")
