"""What stands within a row of a tree."""


def rows_within(tree, row):
    """The list of the numbers of a row and of all rows within it."""
    end = row + 1
    while end < len(tree) and tree[end][0] is not None and tree[end][0] >= row:
        end += 1
    return list(range(row, end))


def is_sound(tree, row):
    """True if nothing in a row is missing or skipped."""
    return all([tree[inner][2] in ("node", "token") for inner in rows_within(tree, row)])


def nodes_on(tree, start, stop):
    """The list of the rows of the nodes that have exactly a stretch, from the outermost one on."""
    return [row for row, (_, _, sort, _, begin, end) in enumerate(tree)
            if sort == "node" and (begin, end) == (start, stop)]
