"""The sections of a language about attributes ([H1] to [H3])."""

from tongues.errors import TongueError
from tongues.expressions import BadExpression, read_expression
from tongues.tokens import is_name

WAYS = ("up", "down")
SORTS = ("integer", "boolean", "text", "term")


class BadSection(TongueError):
    """A section about attributes has a wrong element: the section, its number, and what is wrong."""

    def __init__(self, section, number, reason):
        self.section = section
        self.number = number
        self.reason = reason


class Sections:
    """The attributes, equations and checks of a language, with their expressions read."""

    def __init__(self, language):
        self.attributes = tuple([read_attribute(number, given) for number, given in enumerate(language.attributes)])
        self.equations = tuple([read_equation(number, given) for number, given in enumerate(language.equations)])
        self.checks = tuple([read_check(number, given) for number, given in enumerate(language.checks)])
        self._named = {}
        for attribute in self.attributes:
            self._named.setdefault(attribute[0], attribute)
        self._placed = {}
        for node, field, name, expression in self.equations:
            self._placed.setdefault((node, field, name), expression)

    def attribute(self, name):
        """The first attribute with this name, None if there is none."""
        return self._named.get(name)

    def equation(self, node, field, attribute):
        """The expression of the first equation for an attribute of a node, or of the nodes in a field; or None."""
        return self._placed.get((node, field, attribute))


def read_attribute(number, given):
    """An attribute with all elements. Raises BadSection."""
    if len(given) not in (4, 5):
        raise BadSection("attributes", number, "length")
    if not is_name(given[0]):
        raise BadSection("attributes", number, "name")
    if given[1] not in WAYS:
        raise BadSection("attributes", number, "way")
    if given[2] not in SORTS:
        raise BadSection("attributes", number, "sort")
    if not given[3] or not all([is_name(name) for name in given[3]]):
        raise BadSection("attributes", number, "rules")
    root = None
    if len(given) == 5:
        root = read_text("attributes", number, given[4])
    return given[:4] + (root,)


def read_equation(number, given):
    """An equation with all elements. Raises BadSection."""
    if len(given) not in (3, 4):
        raise BadSection("equations", number, "length")
    if not all([is_name(name) for name in given[:-1]]):
        raise BadSection("equations", number, "name")
    expression = read_text("equations", number, given[-1])
    if len(given) == 3:
        return (given[0], None, given[1], expression)
    return given[:3] + (expression,)


def read_check(number, given):
    """A check. Raises BadSection."""
    if len(given) != 3:
        raise BadSection("checks", number, "length")
    if not is_name(given[0]):
        raise BadSection("checks", number, "name")
    condition = read_text("checks", number, given[1])
    return (given[0], condition, read_text("checks", number, given[2]))


def read_text(section, number, text):
    """The expression of an element of a section. Raises BadSection."""
    try:
        return read_expression(text)
    except BadExpression:
        raise BadSection(section, number, "expression")
