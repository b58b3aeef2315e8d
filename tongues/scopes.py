"""What the names of one file are: its scopes, its occurrences, and the files that it brings ([G5] to [G8])."""

from tongues.facts import NodeFacts
from tongues.fields import is_brackets


class Occurrence:
    """A token in a field that declares, refers or lists.

    `row` and `node` are the rows of the token and of its node, `behind` is the end of that node, and
    `scope` the number of the scope in which it is declared or lies. `role` and `space` are told by
    the fact about its field, and `rest` is what stands behind the space in it.
    """

    def __init__(self, row, name, fact, scope, tree):
        self.row = row
        self.name = name
        self.start = tree[row][4]
        self.stop = tree[row][5]
        self.node = tree[row][0]
        self.behind = tree[self.node][5]
        self.scope = scope
        self.role = fact[0]
        self.space = fact[3]
        self.rest = fact[4:]

    def is_seen_from(self, start):
        """True if a declaration is seen from a token that begins at start."""
        if "behind" in self.rest:
            return start >= self.behind
        return "own" not in self.rest or start >= self.start


class FileNames:
    """The scopes and the occurrences of a file, and what it brings and lists.

    `scopes` is the list of (start, stop, node, around), `occurrences` the list of the occurrences
    in the order of the text.
    """

    def __init__(self, language, text, tree):
        self._facts = NodeFacts(language)
        self._language = language
        self._text = text
        self._tree = tree
        self.scopes = [(0, len(text), None, None)]
        self._opened = {}
        self._lying = []
        for row in range(len(tree)):
            self._take_row(row)
        self.occurrences = []
        for row in range(len(tree)):
            self._take_occurrence(row)
        self._of_rows = {occurrence.row: occurrence for occurrence in self.occurrences}

    def occurrence(self, row):
        """The occurrence in a row, None if there is none."""
        return self._of_rows.get(row)

    def row_at(self, position):
        """The row of the occurrence with the character at a position, None if there is none."""
        for occurrence in self.occurrences:
            if occurrence.start <= position < occurrence.stop:
                return occurrence.row
        return None

    def opened_scope(self, row):
        """The number of the scope that the node in a row opens, None if it opens none."""
        return self._opened.get(row)

    def declarations(self, scope, space, name):
        """The list of the declarations of a name in a space that are declared in a scope."""
        return [one for one in self.occurrences
                if one.role == "declares" and (one.scope, one.space, one.name) == (scope, space, name)]

    def given(self, space, name):
        """The list of the declarations of a name in a space that the file gives out."""
        return [one for one in self.declarations(0, space, name) if "gives" in one.rest]

    def followers(self, space, name, is_handing):
        """The list of the files in which a name goes on to be searched for.

        If `is_handing` is True, only what is handed on counts. The empty text stands for no file.
        """
        listed = [one for one in self.occurrences if self._is_introducing(one, space, name)]
        found = [self.listed_file(one) for one in listed if not is_handing or self._is_handed_on(one)]
        if not found:
            return self._whole_files(is_handing)
        return ["" if file is None else file for file in found]

    def listed_file(self, occurrence):
        """The name of the file that a listed name lists from, None if there is none."""
        row = self._bringing_row(occurrence)
        return None if row is None else self._file_name(row)

    def own_reference(self, occurrence):
        """The row of the own reference of the child within which an occurrence refers, None if there is none."""
        child = self._first_node(occurrence.node, occurrence.rest[0])
        while child is not None and is_brackets(self._language, self._tree[child][3]):
            child = self._first_node(child, "inside")
        if child is None:
            return None
        for field in self._facts.referring_fields(self._tree[child][3]):
            row = self._child_of_sort(child, field, "token")
            if row is not None:
                return row
        return None

    def _take_row(self, row):
        """Settles in which scope a row lies, and the scope that it opens."""
        around, field, sort, name, start, stop = self._tree[row]
        if around is None:
            self._lying.append(0)
        elif around in self._opened and field not in self._facts.left_out(self._tree[around][3]):
            self._lying.append(self._opened[around])
        else:
            self._lying.append(self._lying[around])
        if sort == "node" and start < stop and self._facts.left_out(name) is not None:
            self._opened[row] = len(self.scopes)
            self.scopes.append((start, stop, name, self._lying[row]))

    def _take_occurrence(self, row):
        """Settles the occurrence in a row, if there is one."""
        around, field, sort, _, start, stop = self._tree[row]
        if sort != "token":
            return
        fact = self._facts.naming(self._tree[around][3], field)
        if fact is None:
            return
        scope = self._lying[row]
        if fact[0] == "declares":
            scope = self._opened[around] if "inside" in fact[4:] else self._lying[around]
        self.occurrences.append(Occurrence(row, self._text[start:stop], fact, scope, self._tree))

    def _is_introducing(self, occurrence, space, name):
        """True for a listed name that introduces a name in a space."""
        if occurrence.role != "lists" or (occurrence.space, occurrence.name) != (space, name):
            return False
        return not self._facts.is_declaring(self._tree[occurrence.node][3])

    def _bringing_row(self, occurrence):
        """The row of the innermost node around a listed name that brings a file, None if there is none."""
        row = occurrence.node
        while row is not None and self._facts.bringing(self._tree[row][3]) is None:
            row = self._tree[row][0]
        return row

    def _is_handed_on(self, occurrence):
        """True if a listed name is handed on."""
        row = self._bringing_row(occurrence)
        return row is not None and "gives" in self._facts.bringing(self._tree[row][3])[3:]

    def _file_name(self, row):
        """The name of the file that the node in a row brings, None if its token is missing."""
        fact = self._facts.bringing(self._tree[row][3])
        token = self._child_of_sort(row, fact[2], "token")
        if token is None:
            return None
        name = self._text[self._tree[token][4]:self._tree[token][5]]
        return name[1:-1] if "quoted" in fact[3:] else name

    def _whole_files(self, is_handing):
        """The list of the files that are brought whole, if `is_handing` is True only of those that are handed on."""
        found = []
        for row, (_, _, sort, name, _, _) in enumerate(self._tree):
            fact = self._facts.bringing(name) if sort == "node" else None
            if fact is not None and "whole" in fact[3:] and ("gives" in fact[3:] or not is_handing):
                found.append(self._file_name(row))
        return [file for file in found if file is not None]

    def _first_node(self, row, field):
        """The first node in a field of the node in a row, None if there is none."""
        return self._child_of_sort(row, field, "node")

    def _child_of_sort(self, row, field, sort):
        """The first row of a sort in a field of the node in a row, None if there is none."""
        for number in range(row + 1, len(self._tree)):
            if self._tree[number][:3] == (row, field, sort):
                return number
        return None
