"""What the names of one file are: its scopes, its occurrences, and the files that it brings ([G5] to [G8])."""

from tongues.facts import NodeFacts
from tongues.fields import is_brackets


class Occurrence:
    """A token in a field that declares, refers or lists.

    `row` and `node` are the rows of the token and of its node, `behind` is the end of that node, and
    `scope` the number of the scope in which it is declared or lies. `role` and `space` are told by
    the fact about its field, and `rest` is what stands behind the space in it.
    """

    def __init__(self, row, name, fact, scope, tree):
        self.row = row
        self.name = name
        self.start = tree[row][4]
        self.stop = tree[row][5]
        self.node = tree[row][0]
        self.behind = tree[self.node][5]
        self.scope = scope
        self.role = fact[0]
        self.space = fact[3]
        self.rest = fact[4:]

    def is_seen_from(self, start):
        """True if a declaration is seen from a token that begins at start."""
        if "behind" in self.rest:
            return start >= self.behind
        return "own" not in self.rest or start >= self.start


class FileNames:
    """The scopes and the occurrences of a file, and what it brings and lists.

    `scopes` is the list of (start, stop, node, around), `occurrences` the list of the occurrences
    in the order of the text. `renamed` is a dict from rows to names that tokens have in place of
    their texts.
    """

    def __init__(self, language, text, tree, renamed):
        self._facts = NodeFacts(language)
        self._language = language
        self._text = text
        self._tree = tree
        self.scopes = [(0, len(text), None, None)]
        self.occurrences = []
        self._renamed = renamed
        self._opened = {}
        self._lying = []
        self._below = [[] for _ in tree]
        for row in range(len(tree)):
            self._take_row(row)
        for row in range(len(tree)):
            self._take_occurrence(row)
        self._of_rows = {occurrence.row: occurrence for occurrence in self.occurrences}
        self._of_starts = {occurrence.start: occurrence for occurrence in self.occurrences}
        self._declared = {}
        self._introducing = {}
        for occurrence in self.occurrences:
            self._take_name(occurrence)
        self._brought = self._bringing_rows()

    def occurrence(self, row):
        """The occurrence in a row, None if there is none."""
        return self._of_rows.get(row)

    def row_at(self, position):
        """The row of the occurrence with the character at a position, None if there is none."""
        for occurrence in self.occurrences:
            if occurrence.start <= position < occurrence.stop:
                return occurrence.row
        return None

    def starting_at(self, position):
        """The occurrence that begins at a position, None if there is none."""
        return self._of_starts.get(position)

    def opened_scope(self, row):
        """The number of the scope that the node in a row opens, None if it opens none."""
        return self._opened.get(row)

    def is_left_out(self, row, field):
        """True if a field of the node in a row lies outside of the scope that the node opens."""
        return field in self._facts.left_out(self._tree[row][3])

    def declarations(self, scope, space, name):
        """The list of the declarations of a name in a space that are declared in a scope."""
        return list(self._declared.get((scope, space, name), []))

    def given(self, space, name):
        """The list of the declarations of a name in a space that the file gives out."""
        return [one for one in self.declarations(0, space, name) if "gives" in one.rest]

    def followers(self, space, name, is_handing):
        """The list of the files in which a name goes on to be searched for.

        If `is_handing` is True, only what is handed on counts. The empty text stands for no file.
        """
        listed = self._introducing.get((space, name), [])
        found = [self.listed_file(one) for one in listed if not is_handing or self.is_handed_on(one)]
        if not found:
            return self._whole_files(is_handing)
        return ["" if file is None else file for file in found]

    def is_introducing(self, occurrence):
        """True for a listed name that introduces its name."""
        return occurrence.role == "lists" and not self._facts.is_declaring(self._tree[occurrence.node][3])

    def is_handed_on(self, occurrence):
        """True if a listed name is handed on."""
        row = self._bringing_row(occurrence)
        return row is not None and "gives" in self._facts.bringing(self._tree[row][3])[3:]

    def brought_files(self):
        """The list of the pairs of the row of a node that brings and of the file's name, None if that is missing."""
        return [(row, self._file_name(row)) for row in self._brought]

    def file_token(self, row):
        """The row of the token that names the file that the node in a row brings, None if it is missing."""
        return self._child_of_sort(row, self._facts.bringing(self._tree[row][3])[2], "token")

    def listed_file(self, occurrence):
        """The name of the file that a listed name lists from, None if there is none."""
        row = self._bringing_row(occurrence)
        return None if row is None else self._file_name(row)

    def own_reference(self, occurrence):
        """The row of the own reference of the child within which an occurrence refers, None if there is none."""
        child = self._first_node(occurrence.node, occurrence.rest[0])
        while child is not None and is_brackets(self._language, self._tree[child][3]):
            child = self._first_node(child, "inside")
        if child is None:
            return None
        for field in self._facts.referring_fields(self._tree[child][3]):
            row = self._child_of_sort(child, field, "token")
            if row is not None:
                return row
        return None

    def _take_row(self, row):
        """Settles in which scope a row lies, and the scope that it opens."""
        around, field, sort, name, start, stop = self._tree[row]
        if around is not None:
            self._below[around].append(row)
        if around is None:
            self._lying.append(0)
        elif around in self._opened and field not in self._facts.left_out(self._tree[around][3]):
            self._lying.append(self._opened[around])
        else:
            self._lying.append(self._lying[around])
        if sort == "node" and start < stop and self._facts.left_out(name) is not None:
            self._opened[row] = len(self.scopes)
            self.scopes.append((start, stop, name, self._lying[row]))

    def _take_occurrence(self, row):
        """Settles the occurrence in a row, if there is one."""
        around, field, sort, _, start, stop = self._tree[row]
        if sort != "token":
            return
        fact = self._facts.naming(self._tree[around][3], field)
        if fact is None:
            return
        scope = self._lying[row]
        if fact[0] == "declares":
            scope = self._opened[around] if "inside" in fact[4:] else self._lying[around]
        name = self._renamed.get(row, self._text[start:stop])
        self.occurrences.append(Occurrence(row, name, fact, scope, self._tree))

    def _take_name(self, occurrence):
        """Keeps an occurrence by its name, if it declares or introduces it."""
        space, name = occurrence.space, occurrence.name
        if occurrence.role == "declares":
            self._declared.setdefault((occurrence.scope, space, name), []).append(occurrence)
        if self.is_introducing(occurrence):
            self._introducing.setdefault((space, name), []).append(occurrence)

    def _bringing_rows(self):
        """The list of the rows of the nodes that bring files."""
        return [row for row, (_, _, sort, name, _, _) in enumerate(self._tree)
                if sort == "node" and self._facts.bringing(name) is not None]

    def _bringing_row(self, occurrence):
        """The row of the innermost node around a listed name that brings a file, None if there is none."""
        row = occurrence.node
        while row is not None and self._facts.bringing(self._tree[row][3]) is None:
            row = self._tree[row][0]
        return row

    def _file_name(self, row):
        """The name of the file that the node in a row brings, None if its token is missing."""
        token = self.file_token(row)
        if token is None:
            return None
        name = self._text[self._tree[token][4]:self._tree[token][5]]
        return name[1:-1] if "quoted" in self._facts.bringing(self._tree[row][3])[3:] else name

    def _whole_files(self, is_handing):
        """The list of the files that are brought whole, if `is_handing` is True only of those that are handed on."""
        found = []
        for row in self._brought:
            flags = self._facts.bringing(self._tree[row][3])[3:]
            if "whole" in flags and ("gives" in flags or not is_handing):
                found.append(self._file_name(row))
        return [file for file in found if file is not None]

    def _first_node(self, row, field):
        """The first node in a field of the node in a row, None if there is none."""
        return self._child_of_sort(row, field, "node")

    def _child_of_sort(self, row, field, sort):
        """The first row of a sort in a field of the node in a row, None if there is none."""
        for number in self._below[row]:
            if self._tree[number][1:3] == (field, sort):
                return number
        return None
