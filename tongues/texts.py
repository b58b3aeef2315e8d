"""Texts and changes of texts (part A)."""

from tongues.errors import BadChange


def check_change(text, change):
    """Raises BadChange for the first piece of a change that is wrong."""
    behind = -1
    for index, (start, stop, put) in enumerate(change):
        if not 0 <= start <= stop <= len(text):
            raise BadChange(index, "range")
        if start <= behind:
            raise BadChange(index, "order")
        if start == stop and put == "":
            raise BadChange(index, "nothing")
        behind = stop


def apply_change(text, change):
    """The text after a change."""
    parts = []
    at = 0
    for start, stop, put in change:
        parts.append(text[at:start])
        parts.append(put)
        at = stop
    parts.append(text[at:])
    return "".join(parts)


def invert_change(text, change):
    """The change that leads from the text after a change back to the text before."""
    pieces = []
    shift = 0
    for start, stop, put in change:
        begin = start + shift
        pieces.append((begin, begin + len(put), text[start:stop]))
        shift += len(put) - (stop - start)
    return tuple(pieces)


def join_changes(text, first, second):
    """One change with the effect of two, the second one of the text after the first."""
    between = apply_change(text, first)
    after = apply_change(between, second)
    onward = carried_characters(len(between), second)
    pieces = []
    old = 0
    new = 0
    for place, step in enumerate(carried_characters(len(text), first)):
        target = None if step is None else onward[step]
        if target is None:
            continue
        if place > old or target > new:
            pieces.append((old, place, after[new:target]))
        old = place + 1
        new = target + 1
    if len(text) > old or len(after) > new:
        pieces.append((old, len(text), after[new:]))
    return tuple(pieces)


def carried_characters(size, change):
    """For each character of a text its position after a change, None for a lost one."""
    places = []
    at = 0
    shift = 0
    for start, stop, put in change:
        places.extend([place + shift for place in range(at, start)])
        places.extend([None] * (stop - start))
        shift += len(put) - (stop - start)
        at = stop
    places.extend([place + shift for place in range(at, size)])
    return places


def carry_place(size, change, place):
    """Where a change carries a place of a text of size characters, None if its character is lost."""
    shift = 0
    for start, stop, put in change:
        if start <= place < stop:
            return None
        if stop <= place:
            shift += len(put) - (stop - start)
    return place + shift


def line_and_column(text, place):
    """The line and the column of a place, both counted from 1."""
    return (text[:place].count("\n") + 1, place - text.rfind("\n", 0, place))
