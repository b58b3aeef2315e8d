"""The trees of texts, also of broken ones (part D)."""

from tongues.errors import TooDeep, TooLong
from tongues.parsing import MOST_ROWS, Parser
from tongues.tokens import tokens_from

MOST_CHARACTERS = 600
MOST_TOKENS = 200


def tree_of(language, text):
    """The tree of a text, as a tuple of rows. Raises TooLong or TooDeep."""
    return rule_rows(language, language.start, limited_tokens(language, text))


def limited_tokens(language, text):
    """The list of the tokens of a text that are given to the parser. Raises TooLong."""
    if len(text) > MOST_CHARACTERS:
        raise TooLong("the text has too many characters")
    given = parser_tokens_of(language, text, language.modes[0])
    if len(given) > MOST_TOKENS:
        raise TooLong("the text has too many tokens")
    return given


def parser_tokens_of(language, text, mode):
    """The list of the tokens of a text, read from a mode, that are given to the parser."""
    lexer = language.lexer
    return [token for token in tokens_from(lexer, text, mode) if not lexer.is_skipped(token[0])]


def rule_rows(language, name, given):
    """The rows of some tokens that are parsed as a rule. Raises TooDeep."""
    return told_rows(given, Parser(language, given).whole(name))


def told_rows(given, trees):
    """The rows of trees of some tokens."""
    writer = RowWriter(given)
    for tree in trees:
        writer.write(tree, None, None, 1)
    return tuple(writer.written)


class RowWriter:
    """Writes the rows of trees of some tokens."""

    def __init__(self, given):
        self.given = given
        self.written = []

    def write(self, tree, around, field, depth):
        """Writes the rows of a tree; depth is the number of rows one within the other, its own included."""
        if depth > MOST_ROWS:
            raise TooDeep("too many rows stand one within the other")
        sort, name, first, behind, children = tree
        number = len(self.written)
        start, stop = self.stretch(first, behind)
        self.written.append((around, field, sort, name, start, stop))
        for inner_field, child in children:
            self.write(child, number, inner_field, depth + 1)

    def stretch(self, first, behind):
        """The start and the stop of the tokens from first on ahead of behind, or of none there."""
        if first < behind:
            return (self.given[first][1], self.given[behind - 1][2])
        if first == 0:
            return (0, 0)
        return (self.given[first - 1][2], self.given[first - 1][2])


def problems_of(tree):
    """The (start, stop, name) of what is missing or skipped in a tree, in order."""
    return tuple([(start, stop, name) for _, _, sort, name, start, stop in tree if sort in ("missing", "skipped")])
