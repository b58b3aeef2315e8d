"""The nodes of a tree, with those in brackets looked through ([H9])."""

from tongues.fields import is_brackets


class Nodes:
    """The nodes of a tree that are no brackets, by the numbers of their rows; `tree` is the tree."""

    def __init__(self, language, tree):
        self.tree = tree
        self._language = language
        self._below = [[] for _ in tree]
        self._outermost = []
        for number, row in enumerate(tree):
            if row[0] is None:
                self._outermost.append(number)
            else:
                self._below[row[0]].append(number)

    def is_node(self, row):
        """True for the number of a row of a node that is no brackets."""
        return 0 <= row < len(self.tree) and self.tree[row][2] == "node" and not self._is_brackets(row)

    def numbers(self):
        """The ascending list of the numbers of these rows."""
        return [row for row in range(len(self.tree)) if self.is_node(row)]

    def root(self):
        """The outermost node, None if there is none."""
        found = self._looked_through(self._outermost)
        return found[0] if found else None

    def children(self, row, field):
        """The list of the nodes in a field of a node."""
        return self._looked_through(self._in_field(row, field))

    def token(self, row, field):
        """The row of the token in a field of a node, None if there is none."""
        for below in self._in_field(row, field):
            if self.tree[below][2] == "token":
                return below
        return None

    def around(self, row):
        """The node around a node and the field in which it lies, twice None for the outermost node."""
        around, field = self.tree[row][0], self.tree[row][1]
        while around is not None and self._is_brackets(around):
            around, field = self.tree[around][0], self.tree[around][1]
        return (around, field)

    def name(self, row):
        """The name of a node."""
        return self.tree[row][3]

    def _is_brackets(self, row):
        return is_brackets(self._language, self.tree[row][3])

    def _in_field(self, row, field):
        """The list of the rows directly within a row that are in a field."""
        return [below for below in self._below[row] if self.tree[below][1] == field]

    def _looked_through(self, rows):
        """The list of the nodes among some rows, those within brackets in place of the brackets."""
        found = []
        for row in rows:
            if self.is_node(row):
                found.append(row)
            elif self.tree[row][2] == "node":
                found.extend(self._looked_through(self._in_field(row, "inside")))
        return found
