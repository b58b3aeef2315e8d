"""The values of expressions, and what the operations make of them ([H7], [H8], [H10])."""

LARGEST = 10 ** 60
LONGEST_TEXT = 1000
MOST_TERMS = 400
MOST_HEIGHT = 100
ABSENT = ("absent",)
DIGITS = "0123456789"


def settled(value):
    """The value, or the absent one if it is too large."""
    return ABSENT if is_too_large(value) else value


def is_too_large(value):
    """True for an integer, a text or a term beyond the limits."""
    if value[0] == "integer":
        return not -LARGEST <= value[1] <= LARGEST
    if value[0] == "text":
        return len(value[1]) > LONGEST_TEXT
    return value[0] == "term" and is_large_term(value)


def is_large_term(term):
    """True for a term of too many terms or of too great a height."""
    layer = [term]
    many = 0
    height = -1
    while layer:
        many += len(layer)
        height += 1
        if many > MOST_TERMS or height > MOST_HEIGHT:
            return True
        layer = [below for one in layer for below in one[2]]
    return False


def opposite(value):
    """The other boolean."""
    return ("boolean", not value[1])


def negative(value):
    """The integer with the other sign."""
    return ("integer", -value[1])


def length(value):
    """The number of characters of a text."""
    return ("integer", len(value[1]))


def shown(value):
    """The digits of an integer."""
    return ("text", str(value[1]))


def parsed(value):
    """The integer of a text of digits."""
    digits = value[1]
    if digits == "" or not all([digit in DIGITS for digit in digits]):
        return ABSENT
    return ("integer", int(digits))


def label(value):
    """The label of a term."""
    return ("text", value[1])


def size(value):
    """The number of the terms directly below a term."""
    return ("integer", len(value[2]))


def named(value):
    """The term with a text as its label."""
    return ("term", value[1], ())


def added(first, second):
    """The sum of two integers."""
    return ("integer", first[1] + second[1])


def subtracted(first, second):
    """The difference of two integers."""
    return ("integer", first[1] - second[1])


def multiplied(first, second):
    """The product of two integers."""
    return ("integer", first[1] * second[1])


def quotient(first, second):
    """The quotient of two integers, rounded towards 0."""
    if second[1] == 0:
        return ABSENT
    many = abs(first[1]) // abs(second[1])
    return ("integer", many if (first[1] < 0) == (second[1] < 0) else -many)


def remainder(first, second):
    """What the quotient of two integers leaves."""
    if second[1] == 0:
        return ABSENT
    return ("integer", first[1] - second[1] * quotient(first, second)[1])


def less(first, second):
    """Whether the first integer is less than the second one."""
    return ("boolean", first[1] < second[1])


def same(first, second):
    """Whether two values of one sort are the same."""
    return ("boolean", first == second)


def both(first, second):
    """Whether two booleans are true."""
    return ("boolean", first[1] and second[1])


def either(first, second):
    """Whether one of two booleans is true."""
    return ("boolean", first[1] or second[1])


def appended(first, second):
    """The first text with the second one behind it."""
    return ("text", first[1] + second[1])


def extended(first, second):
    """The first term with the second one as a further term below it."""
    return ("term", first[1], first[2] + (second,))


def argument(first, second):
    """The term below a term with a number."""
    if not 0 <= second[1] < len(first[2]):
        return ABSENT
    return first[2][second[1]]


OPERATIONS = {
    "not": opposite, "negative": negative, "length": length, "shown": shown, "parsed": parsed, "label": label,
    "size": size, "named": named, "add": added, "subtract": subtracted, "multiply": multiplied,
    "quotient": quotient, "remainder": remainder, "less": less, "same": same, "and": both, "or": either,
    "append": appended, "with": extended, "argument": argument}
# What is gathered from no values, and the operation that adds a further one.
BEGINNINGS = {
    "sum": ("integer", 0), "all": ("boolean", True), "any": ("boolean", False), "collect": ("term", "", ()),
    "join": ("text", "")}
STEPS = {"sum": "add", "all": "and", "any": "or", "collect": "with", "join": "append"}


def worked(head, operands):
    """The result of an operation of one or two operands, other than else."""
    if ABSENT in operands:
        return ABSENT
    operation = OPERATIONS[head]
    return settled(operation(*operands))


def gathered(head, values, between):
    """What sum, all, any, collect and join make of a list of values; `between` is the text between the joined ones."""
    total = BEGINNINGS[head]
    for number, value in enumerate(values):
        if head == "join" and number > 0:
            total = worked("append", [total, ("text", between)])
        total = worked(STEPS[head], [total, value])
    return total
