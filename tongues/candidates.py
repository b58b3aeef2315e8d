"""Projects that refactorings change step by step, with the old tokens carried along ([K4] to [K6])."""

from tongues.carrying import all_differing, found_tokens, parser_tokens
from tongues.errors import TongueError, TooDeep, TooLong
from tongues.imports import check_imports
from tongues.lookups import Names
from tongues.printing import (NoBrackets, NoElement, NoList, NoNode, NotWhole, NotWritable, placed_insertion,
                              placed_replacement, remove_element)
from tongues.texts import apply_change, carry_place, join_changes


class Refused(TongueError):
    """A refactoring cannot be carried out: the reason, and the old place that it is told with, or twice None."""

    def __init__(self, reason, file, position):
        self.reason = reason
        self.file = file
        self.position = position


class Differs(TongueError):
    """An occurrence would lead elsewhere: its new place, the old declarations, and the new ones."""

    def __init__(self, occurrence, led, leads):
        self.occurrence = occurrence
        self.led = led
        self.leads = leads


class Candidate:
    """A project that is changed step by step; `old` is the project at first, `old_names` are its names.

    What is put in is a text with the old tokens that are copied into it, pairs of a place in the
    text and an old token. A step that cannot be made changes nothing.
    """

    def __init__(self, project):
        self.old = project
        self.old_names = Names(project)
        self._present = project
        self._names = self.old_names
        self._changes = {file: () for file in project.file_names()}
        self._marks = {file: [(token[1], token) for token in parser_tokens(project, file)]
                       for file in project.file_names()}

    def present(self):
        """The project as it is now."""
        return self._present

    def names(self):
        """The names of the project as it is now."""
        return self._names

    def try_replacing(self, file, row, text, copied):
        """Replaces the node in a row of a file by an expression; False if this cannot be done."""
        language = self._present.language(file)
        try:
            change, _, _, at = placed_replacement(language, self._present.text(file), row, text)
        except (NoNode, NotWhole, NoBrackets, NotWritable, TooLong, TooDeep):
            return False
        self._take(file, change, at, copied)
        return True

    def try_inserting(self, file, place, text, copied, blank):
        """Puts an element into a list, told by (row, field, index); where it begins then, None if it cannot be done."""
        language = self._present.language(file)
        row, field, index = place
        try:
            change, _, at = placed_insertion(language, self._present.text(file), row, field, index, text, blank)
        except (NoList, NoElement, NotWhole, NotWritable, TooLong, TooDeep):
            return None
        self._take(file, change, at, copied)
        return at

    def try_removing(self, file, row):
        """Takes the element in a row of a file out of its list; False if this cannot be done."""
        try:
            change, _ = remove_element(self._present.language(file), self._present.text(file), row)
        except (NoElement, NotWritable, TooLong, TooDeep):
            return False
        self._take(file, change, 0, ())
        return True

    def carried(self):
        """The list of the pairs of an old token and a new one to which it is carried."""
        pairs = []
        for file in self._present.file_names():
            pairs.extend(found_tokens(self.old, self._present, file, self._marks[file]))
        return pairs

    def places_of(self, old):
        """The ascending list of the new tokens to which an old one is carried."""
        return sorted([new for other, new in self.carried() if other == old])

    def differing(self):
        """The list of (old, new, led, leads) for all occurrences that differ, in order."""
        return all_differing(self.old_names, self._names, self.carried())

    def finished(self):
        """The changes of the files whose texts are others now. Raises Differs."""
        for _, new, led, leads in self.differing():
            raise Differs(new, led, leads)
        return {file: change for file, change in self._changes.items() if change}

    def _take(self, file, change, at, copied):
        """Takes over a change of a file in which a text with copied tokens begins at a position."""
        text = self._present.text(file)
        marks = [(carry_place(len(text), change, place), token) for place, token in self._marks[file]]
        marks.extend([(at + place, token) for place, token in copied])
        self._marks[file] = [mark for mark in marks if mark[0] is not None]
        self._changes[file] = join_changes(self.old.text(file), self._changes[file], change)
        self._present = self._present.with_texts({file: apply_change(text, change)})
        self._names = Names(self._present)


def checked_candidate(project):
    """A candidate for a project. Raises BadImport and BadDefinition."""
    for language in project.languages().values():
        check_imports(language)
    return Candidate(project)


def copied_tokens(project, file, start, stop):
    """The tokens of a stretch of a file with their places in the text of the stretch."""
    return [(token[1] - start, token) for token in parser_tokens(project, file)
            if start <= token[1] and token[2] <= stop]
