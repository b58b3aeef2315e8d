"""The sorts of expressions, and which of their parts are wrong ([H14])."""

from tongues.expressions import operands, parts
from tongues.facts import NodeFacts

PLAIN = ("integer", "boolean", "text")
# For each operation the sorts of its operands and its own sort.
OPERATIONS = {
    "not": (("boolean",), "boolean"), "negative": (("integer",), "integer"), "length": (("text",), "integer"),
    "shown": (("integer",), "text"), "parsed": (("text",), "integer"), "label": (("term",), "text"),
    "size": (("term",), "integer"), "named": (("text",), "term"),
    "add": (("integer", "integer"), "integer"), "subtract": (("integer", "integer"), "integer"),
    "multiply": (("integer", "integer"), "integer"), "quotient": (("integer", "integer"), "integer"),
    "remainder": (("integer", "integer"), "integer"), "less": (("integer", "integer"), "boolean"),
    "and": (("boolean", "boolean"), "boolean"), "or": (("boolean", "boolean"), "boolean"),
    "append": (("text", "text"), "text"), "with": (("term", "term"), "term"),
    "argument": (("term", "integer"), "term")}
# For each form of reading of what sorts the field can be that it names; before goes by the field of its equation.
NEEDED_FIELDS = {
    "child": ("one",), "has": ("token", "one"), "count": ("many",), "spelling": ("token",), "meant": ("token",),
    "last": ("many",), "sum": ("many",), "all": ("many",), "any": ("many",), "collect": ("many",), "join": ("many",)}
# The sorts of the forms of reading that read no attribute, and of the attributes that are gathered.
UNNAMED_SORTS = {"has": "boolean", "count": "integer", "spelling": "text"}
GATHERED_SORTS = {"sum": "integer", "all": "boolean", "any": "boolean", "collect": "term", "join": "text"}


def is_reading(expression):
    """True if an expression itself, its operands aside, reads."""
    return expression[0] in ("own", "before") or expression[0] in NEEDED_FIELDS


class Sorts:
    """Tells the sorts of expressions at the nodes of a language.

    A place is the pair of a node and of the field that an equation is for, or None.
    """

    def __init__(self, language, shapes, attributes):
        self._language = language
        self._facts = NodeFacts(language)
        self._shapes = shapes
        self._attributes = attributes

    def wrong_part(self, expression, place):
        """The first part of an expression at a place that is wrong, None if none is."""
        for part in parts(expression):
            if self.sort_of(part, place) is None:
                return part
        return None

    def sort_of(self, expression, place):
        """The sort of an expression at a place, None if it is wrong."""
        head = expression[0]
        if head in PLAIN:
            return head
        sorts = tuple([self.sort_of(operand, place) for operand in operands(expression)])
        if None in sorts:
            return None
        if is_reading(expression):
            return self._read_sort(expression, sorts, place)
        if head == "term":
            return "term" if all([sort == "term" for sort in sorts]) else None
        if head in ("same", "else"):
            return shared_sort("boolean" if head == "same" else sorts[0], sorts)
        if head == "if":
            return shared_sort(sorts[1], sorts[1:]) if sorts[0] == "boolean" else None
        return OPERATIONS[head][1] if sorts == OPERATIONS[head][0] else None

    def _read_sort(self, expression, sorts, place):
        """The sort of an expression that reads, by the sorts of its operands."""
        head = expression[0]
        if head == "own":
            return self._attribute_sort(expression[1], [place[0]])
        if head == "before":
            return self._before_sort(expression[1], sorts[0], place)
        kind, rule = self._shapes.fields(place[0]).get(expression[1], ("none", None))
        if kind not in NEEDED_FIELDS[head]:
            return None
        if head in UNNAMED_SORTS:
            return UNNAMED_SORTS[head]
        nodes = self._meant_nodes(place[0], expression[1]) if head == "meant" else self._shapes.can_be(rule)
        found = self._attribute_sort(expression[2], nodes)
        if head == "last" and found != sorts[0]:
            return None
        return found if GATHERED_SORTS.get(head, found) == found else None

    def _before_sort(self, name, sort, place):
        """The sort of an attribute of the element before, if it is that of the operand."""
        node, field = place
        kind, rule = self._shapes.fields(node).get(field, ("none", None))
        if kind != "many" or self._attributes.way(name) != "up":
            return None
        found = self._attribute_sort(name, self._shapes.can_be(rule))
        return found if found == sort else None

    def _attribute_sort(self, name, nodes):
        """The sort of an attribute, None if not all of some nodes, of which there has to be one, have it."""
        if not nodes or not all([self._attributes.has(node, name) for node in nodes]):
            return None
        return self._attributes.sort_of(name)

    def _meant_nodes(self, node, field):
        """The list of the nodes that declare in a space in which a field refers or lists."""
        fact = self._facts.naming(node, field)
        if fact is None or fact[0] == "declares":
            return []
        return [other[1] for other in self._language.names if other[0] == "declares" and other[3] == fact[3]]


def shared_sort(sort, sorts):
    """A sort, if some sorts are all one, otherwise None."""
    return sort if all([other == sorts[0] for other in sorts]) else None
