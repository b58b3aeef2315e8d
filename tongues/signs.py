"""The signs of texts, the modes in which they are read, and texts that are whole for a rule ([F1], [F4])."""

from tongues.sketches import sketch_of
from tongues.tokens import tokens
from tongues.trees import parser_tokens_of, rule_rows


def signs_of(text, given):
    """The list of the pairs (kind, text) of some tokens of a text."""
    return [(token[0], text[token[1]:token[2]]) for token in given]


def mode_at(lexer, text, position):
    """The mode in which a text is read that is to be put in at a position of a text."""
    behind = lexer.modes[0]
    for kind, start, _, mode, _ in tokens(lexer, text):
        if start >= position:
            return mode
        behind = lexer.mode_behind(kind, mode)
    return behind


def whole_reading(language, mode, text, name):
    """The signs and the sketch of a text that is whole for a rule, read from a mode; None if it is not whole."""
    given = parser_tokens_of(language, text, mode)
    rows = rule_rows(language, name, given)
    outermost = [row for row in rows if row[0] is None]
    if len(outermost) > 1 or not all([row[2] in ("node", "token") for row in rows]):
        return None
    return (signs_of(text, given), sketch_of(rows))
