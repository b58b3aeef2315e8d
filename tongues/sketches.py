"""Sketches: trees without positions.

A sketch is a list of rows (depth, field, sort, name), each node before its children; the depth of
the outermost rows is 0. Two trees have the same sketch if they are the same, positions aside.
"""


def sketch_of(tree):
    """The sketch of a tree."""
    depths = []
    for row in tree:
        depths.append(0 if row[0] is None else depths[row[0]] + 1)
    return [(depth, row[1], row[2], row[3]) for depth, row in zip(depths, tree)]


def end_of(sketch, row):
    """The number of the row behind the last one within a row."""
    end = row + 1
    while end < len(sketch) and sketch[end][0] > sketch[row][0]:
        end += 1
    return end


def placed(sketch, depth, field):
    """The rows of a sketch as they are at a depth, with its outermost rows in a field."""
    return [(depth + inner, field if inner == 0 else inner_field, sort, name)
            for inner, inner_field, sort, name in sketch]


def bracketed(sketch, rule):
    """The sketch of a node in the brackets of an operators rule."""
    rows = [(0, None, "node", rule[1]), word_row(1, None, rule[4][0])]
    rows.extend(placed(sketch, 1, "inside"))
    rows.append(word_row(1, None, rule[4][1]))
    return rows


def word_row(depth, field, word):
    """The row of a word."""
    return (depth, field, "token", ("word", word))


def without(sketch, rows):
    """A sketch without some rows and all that is within them."""
    kept = []
    row = 0
    while row < len(sketch):
        if row in rows:
            row = end_of(sketch, row)
        else:
            kept.append(sketch[row])
            row += 1
    return kept
