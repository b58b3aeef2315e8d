"""Putting parts into a text in place of a stretch, with as few gaps as are needed ([F5])."""

from tongues.signs import signs_of
from tongues.sketches import sketch_of
from tongues.trees import parser_tokens_of, tree_of

GAP = " "


def written(language, text, stretch, parts, wanted):
    """The change and the places of its gaps, None if what is wanted cannot be carried out.

    A part is the pair of a text and the list of its signs; `wanted` is a sketch. Raises TooLong and TooDeep.
    """
    start, stop = stretch
    given = parser_tokens_of(language, text, language.modes[0])
    ahead = [token for token in given if token[2] <= start]
    behind = [token for token in given if token[1] >= stop]
    signs = signs_of(text, ahead)
    for _, part_signs in parts:
        signs.extend(part_signs)
    signs.extend(signs_of(text, behind))
    for gaps in gap_sets(len(parts) + 1):
        put = with_gaps([part for part, _ in parts], gaps)
        new_text = text[:start] + put + text[stop:]
        new_given = parser_tokens_of(language, new_text, language.modes[0])
        if signs_of(new_text, new_given) == signs:
            shift = len(new_text) - len(text)
            if not are_kept(ahead, behind, shift, new_given) or sketch_of(tree_of(language, new_text)) != wanted:
                return None
            return (((start, stop, put),), gaps)
    return None


def gap_sets(many):
    """All sets of so many places, as ascending tuples: smaller ones first, then by their first difference."""
    found = [()]
    latest = [()]
    while latest:
        latest = [places + (place,) for places in latest for place in range(places[-1] + 1 if places else 0, many)]
        found.extend(latest)
    return found


def with_gaps(parts, gaps):
    """Parts one behind the other, with gaps at some places; the place 0 is ahead of the first part."""
    put = ""
    for place, part in enumerate(parts):
        put = put + (GAP if place in gaps else "") + part
    return put + (GAP if len(parts) in gaps else "")


def part_place(start, parts, gaps, number):
    """Where a part begins in the new text, if parts are put in at start with gaps at some places."""
    ahead = [text for text, _ in parts[:number]]
    return start + sum([len(text) for text in ahead]) + len(GAP) * len([place for place in gaps if place <= number])


def are_kept(ahead, behind, shift, new_given):
    """True if the tokens ahead of a stretch and behind it begin where their first characters are then."""
    starts = [token[1] for token in ahead]
    new_starts = [token[1] for token in new_given]
    if new_starts[:len(starts)] != starts:
        return False
    return new_starts[len(new_starts) - len(behind):] == [token[1] + shift for token in behind]
