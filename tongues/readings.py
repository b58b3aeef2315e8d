"""What expressions read at a node, and what they are evaluated to ([H8] to [H11])."""

from tongues.errors import TongueError
from tongues.expressions import operands
from tongues.sorts import PLAIN, is_reading
from tongues.values import ABSENT, gathered, settled, worked

GATHERING = ("sum", "all", "any", "collect", "join")


class Stopped(TongueError):
    """An evaluation goes no further: the instance that it read last is not known."""


class Place:
    """The node of an equation: its file, its row, and the row of the element for which it is evaluated.

    `field` is the field in which the element lies; field and element are None for an attribute
    that goes up, and the row is None where there is no node, as it is for a root.
    """

    def __init__(self, file, row, field=None, element=None):
        self.file = file
        self.row = row
        self.field = field
        self.element = element


class Evaluation:
    """Evaluates an expression at a place; `reads` is the list of the instances that were read."""

    def __init__(self, known, meanings, file_nodes, place):
        self.reads = []
        self._known = known
        self._meanings = meanings
        self._nodes = file_nodes.nodes
        self._text = file_nodes.text
        self._place = place

    def value(self, expression):
        """What an expression is evaluated to. Raises Stopped."""
        head = expression[0]
        if head in PLAIN:
            return expression
        if is_reading(expression):
            return self._reading(expression)
        if head == "else":
            first = self.value(expression[1])
            return self.value(expression[2]) if first == ABSENT else first
        if head == "if":
            return self._choice(expression)
        values = [self.value(operand) for operand in operands(expression)]
        return built_term(expression[1], values) if head == "term" else worked(head, values)

    def _choice(self, expression):
        """The value of an `if`."""
        condition = self.value(expression[1])
        if condition == ABSENT:
            return ABSENT
        return self.value(expression[2] if condition[1] else expression[3])

    def _read(self, file, row, name):
        """The value of an attribute at a node. Raises Stopped if it is not known, or cyclic."""
        instance = (file, row, name)
        self.reads.append(instance)
        if self._known.get(instance, ("cycle",)) == ("cycle",):
            raise Stopped("an instance is not known")
        return self._known[instance]

    def _reading(self, expression):
        """The value of an expression that reads."""
        head = expression[0]
        if head == "own":
            return self._read(self._place.file, self._place.row, expression[1])
        if head == "before":
            return self._before(expression)
        if head == "spelling":
            return self._spelling(expression[1])
        if head == "meant":
            return self._meant(expression[1], expression[2])
        children = self._nodes.children(self._place.row, expression[1])
        if head == "has":
            return ("boolean", bool(children) or self._nodes.token(self._place.row, expression[1]) is not None)
        if head == "count":
            return ("integer", len(children))
        if head in GATHERING:
            values = [self._read(self._place.file, child, expression[2]) for child in children]
            return gathered(head, values, expression[3] if head == "join" else None)
        if children:
            return self._read(self._place.file, children[-1], expression[2])
        return self.value(expression[3]) if head == "last" else ABSENT

    def _before(self, expression):
        """The value of `before`."""
        siblings = self._nodes.children(self._place.row, self._place.field)
        number = siblings.index(self._place.element)
        if number == 0:
            return self.value(expression[2])
        return self._read(self._place.file, siblings[number - 1], expression[1])

    def _spelling(self, field):
        """The text of the token in a field."""
        token = self._nodes.token(self._place.row, field)
        if token is None:
            return ABSENT
        return settled(("text", self._text[self._nodes.tree[token][4]:self._nodes.tree[token][5]]))

    def _meant(self, field, name):
        """The value of an attribute at the node of the declaration to which the token in a field leads."""
        token = self._nodes.token(self._place.row, field)
        node = None if token is None else self._meanings.node_meant(self._place.file, token)
        return ABSENT if node is None else self._read(node[0], node[1], name)


def built_term(label, values):
    """The term with a label and some values below it, which are added one after another."""
    total = ("term", label, ())
    for value in values:
        total = worked("with", [total, value])
    return total
