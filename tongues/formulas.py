"""The formulas of cells ([E1], [E2])."""

from tongues.errors import TongueError
from tongues.tokens import is_name

LARGEST = 1000000
MOST_NESTED = 6
# For each word how long its formulas are, the word included.
LENGTHS = {"plus": 3, "least": 3, "or": 3, "if": 4, "cyclic": 2}


class BadName(TongueError):
    """The name of a cell is none."""


class BadValue(TongueError):
    """The value of an input is none."""


class BadFormula(TongueError):
    """A formula has a wrong part: the way to it, and what is wrong with it."""

    def __init__(self, way, reason):
        self.way = way
        self.reason = reason


def check_formula(formula):
    """Raises BadFormula for the first part of a formula that is wrong."""
    check_part(formula, ())


def check_part(formula, way):
    """Raises BadFormula for the first wrong part of a part to which a way leads."""
    if isinstance(formula, tuple):
        check_tuple(formula, way)
    elif isinstance(formula, str):
        check_cell_name(formula, way)
    elif formula is not None and (isinstance(formula, bool) or not -LARGEST <= formula <= LARGEST):
        raise BadFormula(way, "range")


def check_tuple(formula, way):
    """Raises BadFormula for the first wrong part of a part that is a tuple."""
    if len(way) >= MOST_NESTED:
        raise BadFormula(way, "depth")
    if not formula or formula[0] not in LENGTHS:
        raise BadFormula(way, "word")
    if len(formula) != LENGTHS[formula[0]]:
        raise BadFormula(way, "length")
    if formula[0] == "cyclic":
        check_cell_name(formula[1], way + (1,))
    for place in range(1, len(formula)):
        check_part(formula[place], way + (place,))


def check_cell_name(name, way):
    """Raises BadFormula if what stands for the name of a cell is none."""
    if not isinstance(name, str) or not is_name(name):
        raise BadFormula(way, "name")
