"""Lists in trees: the children of a part "many", and where elements are put in and taken out."""

from tongues.places import field_part


def list_part(language, tree, row, field):
    """The part "many" of a field of the node in a row, None if the row is no such node."""
    if not 0 <= row < len(tree) or tree[row][2] != "node":
        return None
    rule = language.rule(tree[row][3])
    if rule is None or rule[0] != "node":
        return None
    part = field_part(rule, field)
    return part if part is not None and part[0] == "many" else None


class Listing:
    """What a part "many" of a node has: nodes, words between them, and what is missing or skipped there.

    `nodes` is the list of the rows of the elements.
    """

    def __init__(self, language, tree, row, part):
        self._tree = tree
        self._row = row
        self._word = part[3]
        self._children = [number for number in range(row + 1, len(tree)) if tree[number][0] == row]
        parts = language.rule(tree[row][3])[2]
        self._many_ahead = 0
        for earlier in parts[:parts.index(part)]:
            self._many_ahead = self._behind_part(earlier, self._many_ahead)
        self._many_up_to = self._behind_part(part, self._many_ahead)
        own = self._children[self._many_ahead:self._many_up_to]
        self.nodes = [number for number in own if tree[number][2] == "node"]

    def position(self, index):
        """The position at which an element with an index is put in."""
        if index < len(self.nodes):
            return self._tree[self.nodes[index]][4]
        if self.nodes:
            return self._tree[self.nodes[-1]][5]
        ahead = self._tree[:self.row_ahead(0)]
        return max([row[5] for row in ahead if row[2] in ("token", "skipped")], default=0)

    def row_ahead(self, index):
        """The number of the row ahead of which an element with an index is put in."""
        if index < len(self.nodes):
            return self._child_row(self._many_ahead + index * (1 if self._word is None else 2))
        if self.nodes:
            return self._child_row(self._many_up_to)
        return self._child_row(self._many_ahead)

    def stretch_of(self, row):
        """The start and the stop of what is taken out with an element."""
        place = self.nodes.index(row)
        start, stop = self._tree[row][4], self._tree[row][5]
        if place + 1 < len(self.nodes):
            return (start, self._tree[self.nodes[place + 1]][4])
        if place > 0:
            return (self._tree[self.nodes[place - 1]][5], stop)
        return (start, stop)

    def rows_to_remove(self, row):
        """The list of the rows that are taken out with an element."""
        if self._word is None or len(self.nodes) == 1:
            return [row]
        child = self._children.index(row)
        return [row, self._children[child - 1 if row == self.nodes[-1] else child + 1]]

    def _behind_part(self, part, child):
        """The number of the first child behind those of a part, which begin with the child of a number."""
        if part[0] == "word":
            # What is skipped ahead of a word that is expected belongs to it.
            while self._tree[self._children[child]][2] == "skipped":
                child += 1
            return child + 1
        while child < len(self._children) and self._tree[self._children[child]][1] == part[2]:
            child += 1
        return child

    def _child_row(self, child):
        """The row of the child of a number; of the number behind the last child the row behind the node."""
        if child < len(self._children):
            return self._children[child]
        row = self._row + 1
        while row < len(self._tree) and self._is_within(row):
            row += 1
        return row

    def _is_within(self, row):
        """True if a row stands within the node."""
        while row is not None and row != self._row:
            row = self._tree[row][0]
        return row == self._row
