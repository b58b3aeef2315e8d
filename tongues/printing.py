"""Writing back: nodes that are replaced, elements that are put in and taken out, and gaps (part F)."""

from tongues.errors import TongueError
from tongues.listings import Listing, list_part
from tongues.places import fits, place_of
from tongues.signs import mode_at, signs_of, whole_reading
from tongues.sketches import bracketed, end_of, placed, sketch_of, without, word_row
from tongues.trees import limited_tokens, parser_tokens_of, tree_of
from tongues.writing import GAP, part_place, written


class NoNode(TongueError):
    """A row is no node with a token."""


class NoList(TongueError):
    """A row is no node with such a list."""


class NoElement(TongueError):
    """There is no such element of a list."""


class NotWritable(TongueError):
    """No text has what is wanted."""


class NotWhole(TongueError):
    """A text is not whole for a rule: the name of the rule."""

    def __init__(self, rule):
        self.rule = rule


class NoBrackets(TongueError):
    """A node does not fit its place, and its rule has no brackets: the name of the rule."""

    def __init__(self, rule):
        self.rule = rule


def replace_node(language, text, row, expression):
    """The change that puts an expression in place of a node, the number of gaps, and whether brackets were put in."""
    change, gaps, is_bracketed, _ = placed_replacement(language, text, row, expression)
    return (change, gaps, is_bracketed)


def placed_replacement(language, text, row, expression):
    """The same, and the position in the new text at which the expression begins."""
    tree = tree_of(language, text)
    limited_tokens(language, expression)
    if not is_node_with_tokens(tree, row):
        raise NoNode("the row is no node with a token")
    start, stop = tree[row][4], tree[row][5]
    place = place_of(language, tree, row)
    signs, inner = whole_at(language, text, start, expression, place[0])
    parts = [(expression, signs)]
    is_bracketed = not fits(language, place, inner[0][3])
    if is_bracketed:
        rule = language.rule(place[0])
        if rule[0] != "operators" or rule[4] is None:
            raise NoBrackets(place[0])
        parts = [word_part(rule[4][0])] + parts + [word_part(rule[4][1])]
        inner = bracketed(inner, rule)
    old = sketch_of(tree)
    wanted = old[:row] + placed(inner, old[row][0], old[row][1]) + old[end_of(old, row):]
    change, gaps = carried_out(language, text, (start, stop), parts, wanted)
    return (change, len(gaps), is_bracketed, part_place(start, parts, gaps, 1 if is_bracketed else 0))


def insert_element(language, text, row, field, index, element, blank):
    """The change that puts an element into a list, and the number of gaps."""
    change, gaps, _ = placed_insertion(language, text, row, field, index, element, blank)
    return (change, gaps)


def placed_insertion(language, text, row, field, index, element, blank):
    """The same, and the position in the new text at which the element begins."""
    tree = tree_of(language, text)
    part = list_part(language, tree, row, field)
    if part is None:
        raise NoList("the row is no node with such a list")
    listing = Listing(language, tree, row, part)
    if not 0 <= index <= len(listing.nodes):
        raise NoElement("the list has no such place")
    limited_tokens(language, element)
    position = listing.position(index)
    signs, inner = whole_at(language, text, position, element, part[1])
    if not signs:
        raise NotWhole(part[1])
    old = sketch_of(tree)
    depth = old[row][0] + 1
    rows = placed(inner, depth, field)
    parts = [(element, signs)]
    if part[3] is not None and listing.nodes:
        rows = ordered(index < len(listing.nodes), rows, [word_row(depth, field, part[3])])
        parts = ordered(index < len(listing.nodes), parts, [word_part(part[3])])
    is_first = index < len(listing.nodes) or position == 0
    parts = parts + [(blank, [])] if is_first else parts[:-1] + [(blank, [])] + parts[-1:]
    at = listing.row_ahead(index)
    change, gaps = carried_out(language, text, (position, position), parts, old[:at] + rows + old[at:])
    return (change, len(gaps), part_place(position, parts, gaps, 0 if is_first else len(parts) - 1))


def remove_element(language, text, row):
    """The change that takes an element out of its list, and the number of gaps."""
    tree = tree_of(language, text)
    part = None
    if is_node_with_tokens(tree, row) and tree[row][0] is not None:
        part = list_part(language, tree, tree[row][0], tree[row][1])
    if part is None:
        raise NoElement("the row is no element of a list")
    listing = Listing(language, tree, tree[row][0], part)
    wanted = without(sketch_of(tree), listing.rows_to_remove(row))
    change, gaps = carried_out(language, text, listing.stretch_of(row), [], wanted)
    return (change, len(gaps))


def gaps_for(language, texts):
    """The numbers of the texts behind which a gap stands if they are written one behind the other."""
    lexer = language.lexer
    modes = [lexer.modes[0]]
    for text in texts:
        modes.append(lexer.token(text, 0, modes[-1])[1])
    gaps = []
    whole = ""
    for number in reversed(range(len(texts))):
        text = texts[number]
        if whole and lexer.token(text + whole, 0, modes[number])[0][2] != len(text):
            gaps.append(number)
            whole = GAP + whole
        whole = text + whole
    given = parser_tokens_of(language, whole, lexer.modes[0])
    if [sign[1] for sign in signs_of(whole, given)] != list(texts):
        return None
    return tuple(sorted(gaps))


def is_node_with_tokens(tree, row):
    """True if a row is a node with at least one token, used or skipped."""
    return 0 <= row < len(tree) and tree[row][2] == "node" and tree[row][4] < tree[row][5]


def whole_at(language, text, position, put, name):
    """The signs and the sketch of a text that is to be put in at a position. Raises NotWhole."""
    whole = whole_reading(language, mode_at(language.lexer, text, position), put, name)
    if whole is None:
        raise NotWhole(name)
    return whole


def word_part(word):
    """A word of the language as a part of what is put in."""
    return (word, [(("word", word), word)])


def ordered(is_ahead, rows, others):
    """Two lists as one, the first one ahead of the other or behind it."""
    return rows + others if is_ahead else others + rows


def carried_out(language, text, stretch, parts, wanted):
    """The change and the places of its gaps. Raises NotWritable if what is wanted cannot be carried out."""
    done = written(language, text, stretch, parts, wanted)
    if done is None:
        raise NotWritable("no text has what is wanted")
    return done
