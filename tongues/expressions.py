"""Expressions: their texts, read and written, and their parts ([H4] to [H6])."""

from tongues.errors import TongueError
from tongues.tokens import LETTERS, is_name

LARGEST = 1000000
DIGITS = "0123456789"
LONGEST_TEXT = 60
MOST_PARTS = 60
MOST_LEVELS = 12
MOST_BELOW = 6
# For the word of each form what stands behind it: names, texts, expressions, or, last, any number of expressions.
FORMS = {
    "term": ("text", "several"),
    "own": ("name",), "child": ("name", "name"), "before": ("name", "one"), "has": ("name",), "count": ("name",),
    "spelling": ("name",), "meant": ("name", "name"), "last": ("name", "name", "one"), "sum": ("name", "name"),
    "all": ("name", "name"), "any": ("name", "name"), "collect": ("name", "name"), "join": ("name", "name", "text"),
    "not": ("one",), "negative": ("one",), "length": ("one",), "shown": ("one",), "parsed": ("one",),
    "label": ("one",), "size": ("one",), "named": ("one",),
    "add": ("one", "one"), "subtract": ("one", "one"), "multiply": ("one", "one"), "quotient": ("one", "one"),
    "remainder": ("one", "one"), "less": ("one", "one"), "same": ("one", "one"), "and": ("one", "one"),
    "or": ("one", "one"), "append": ("one", "one"), "with": ("one", "one"), "argument": ("one", "one"),
    "else": ("one", "one"), "if": ("one", "one", "one")}


class BadExpression(TongueError):
    """A text is no expression: the position at which it goes wrong."""

    def __init__(self, position):
        self.position = position


class ExpressionReader:
    """Reads the text of an expression, token by token."""

    def __init__(self, text):
        self._text = text
        self._token = expression_token(text, 0)
        self._many = 0

    def whole(self):
        """The expression that the whole text is."""
        expression = self._expression(0)
        self._take("end")
        return expression

    def _take(self, sort):
        """The value of the next token, which has to be of a sort."""
        found, start, stop, value = self._token
        if found != sort:
            raise BadExpression(start)
        self._token = expression_token(self._text, stop)
        return value

    def _expression(self, level):
        """Reads an expression that stands in so many parentheses."""
        sort, start, _, value = self._token
        self._many += 1
        if self._many > MOST_PARTS:
            raise BadExpression(start)
        if sort == "(" and level < MOST_LEVELS:
            return self._form(level + 1)
        if sort in ("integer", "text"):
            return (sort, self._take(sort))
        if sort == "letters" and value in ("true", "false"):
            return ("boolean", self._take(sort) == "true")
        raise BadExpression(start)

    def _form(self, level):
        """Reads an expression with parentheses, which are the level-th ones."""
        self._take("(")
        start = self._token[1]
        word = self._take("letters")
        if word not in FORMS:
            raise BadExpression(start)
        read = [word]
        for need in FORMS[word]:
            read.append(self._needed(need, level))
        self._take(")")
        return tuple(read)

    def _needed(self, need, level):
        """Reads what stands behind a word."""
        if need == "one":
            return self._expression(level)
        if need == "several":
            return self._several(level)
        if need == "text":
            return self._take("text")
        start = self._token[1]
        name = self._take("letters")
        if not is_name(name):
            raise BadExpression(start)
        return name

    def _several(self, level):
        """Reads the expressions below a term."""
        read = []
        while self._token[0] != ")" and len(read) < MOST_BELOW:
            read.append(self._expression(level))
        return tuple(read)


def expression_token(text, at):
    """The next token from a position on, as (sort, start, stop, value)."""
    while text[at:at + 1] in (" ", "\n"):
        at += 1
    first = text[at:at + 1]
    if first == "":
        return ("end", at, at, None)
    if first in "()":
        return (first, at, at + 1, None)
    if first == "\"":
        return text_token(text, at)
    stop = row_stop(text, at, LETTERS)
    if stop > at:
        return ("letters", at, stop, text[at:stop])
    return integer_token(text, at)


def row_stop(text, at, characters):
    """The position behind the longest row of some characters that begins at a position."""
    while at < len(text) and text[at] in characters:
        at += 1
    return at


def integer_token(text, at):
    """The token of an integer; a wrong one if it is none."""
    start = at + 1 if text[at] == "-" else at
    stop = row_stop(text, start, DIGITS)
    # An integer that is in the range has no more digits than the largest one.
    if text[at:stop] == "0" or (start < stop <= start + len(str(LARGEST)) and text[start] != "0"):
        number = int(text[at:stop])
        if -LARGEST <= number <= LARGEST:
            return ("integer", at, stop, number)
    return ("wrong", at, stop, None)


def text_token(text, at):
    """The token of a text in quotation marks; a wrong one if it is none."""
    value = ""
    place = at + 1
    while place < len(text) and text[place] != "\"":
        if text[place] == "\\":
            place += 1
            if text[place:place + 1] not in ("\"", "\\"):
                return ("wrong", at, place, None)
        value += text[place]
        place += 1
    if place == len(text) or len(value) > LONGEST_TEXT:
        return ("wrong", at, place, None)
    return ("text", at, place + 1, value)


def read_expression(text):
    """The expression that a text is. Raises BadExpression."""
    return ExpressionReader(text).whole()


def write_expression(expression):
    """The canonical text of an expression."""
    word = expression[0]
    if word == "integer":
        return str(expression[1])
    if word == "boolean":
        return "true" if expression[1] else "false"
    if word == "text":
        return quoted(expression[1])
    written = [word]
    for need, part in zip(FORMS[word], expression[1:]):
        if need == "one":
            written.append(write_expression(part))
        elif need == "several":
            written.extend([write_expression(below) for below in part])
        else:
            written.append(quoted(part) if need == "text" else part)
    return "(" + " ".join(written) + ")"


def quoted(text):
    """A text in quotation marks."""
    return "\"" + text.replace("\\", "\\\\").replace("\"", "\\\"") + "\""


def operands(expression):
    """The tuple of the expressions that are the direct parts of an expression."""
    found = []
    for need, part in zip(FORMS.get(expression[0], ()), expression[1:]):
        if need == "one":
            found.append(part)
        elif need == "several":
            found.extend(part)
    return tuple(found)


def parts(expression):
    """The list of all parts of an expression, those of its operands in order, then itself."""
    found = []
    for operand in operands(expression):
        found.extend(parts(operand))
    found.append(expression)
    return found
