"""The faults of a language's attributes ([H12] to [H15])."""

from tongues.attributes import Attributes
from tongues.expressions import parts
from tongues.facts import NodeFacts
from tongues.sections import Sections
from tongues.shapes import Shapes
from tongues.sorts import Sorts, is_reading


def attribute_faults(language):
    """The list of the faults of a language's attributes. Raises BadSection."""
    finder = FaultFinder(language)
    return finder.in_attributes() + finder.in_equations() + finder.in_checks() + finder.in_nodes()


def reads_names(language):
    """The numbers of the equations in which the spelling of a field is read that declares, refers or lists."""
    sections = Sections(language)
    facts = NodeFacts(language)
    found = []
    for number, (node, _, _, expression) in enumerate(sections.equations):
        fields = [part[1] for part in parts(expression) if part[0] == "spelling"]
        if any([facts.naming(node, field) is not None for field in fields]):
            found.append(number)
    return found


class FaultFinder:
    """Finds the faults of a language's attributes."""

    def __init__(self, language):
        self._language = language
        self._sections = Sections(language)
        self._shapes = Shapes(language)
        self._attributes = Attributes(self._sections, self._shapes)
        self._sorts = Sorts(language, self._shapes, self._attributes)

    def in_attributes(self):
        """The faults of the attributes."""
        found = []
        names = [attribute[0] for attribute in self._sections.attributes]
        for number, attribute in enumerate(self._sections.attributes):
            if attribute[0] in names[:number]:
                found.append(("attributes", number, "double"))
            found.extend([("attributes", number, "rule", rule) for rule in attribute[3]
                          if self._language.rule(rule) is None and not self._shapes.is_node(rule)])
            reason = self._root_reason(attribute)
            if reason is not None:
                found.append(("attributes", number, reason))
        return found

    def in_equations(self):
        """The faults of the equations."""
        found = []
        places = [equation[:3] for equation in self._sections.equations]
        for number, equation in enumerate(self._sections.equations):
            reason = self._place_reason(equation)
            if reason is None and places[number] in places[:number]:
                reason = "double"
            if reason is None:
                sort = self._attributes.sort_of(equation[2])
                found.extend(self._expression_faults(("equations", number), equation[3], equation[:2], sort))
            else:
                found.append(("equations", number, reason))
        return found

    def in_checks(self):
        """The faults of the checks."""
        found = []
        for number, (node, condition, message) in enumerate(self._sections.checks):
            if not self._shapes.is_node(node):
                found.append(("checks", number, "node"))
                continue
            place = (node, None)
            found.extend(self._expression_faults(("checks", number, "condition"), condition, place, "boolean"))
            found.extend(self._expression_faults(("checks", number, "message"), message, place, "text"))
        return found

    def in_nodes(self):
        """The faults of the nodes: attributes for which there is no equation."""
        found = []
        for node in self._shapes.nodes:
            found.extend(self._unequated(node, None, "up", [node]))
            for field, (kind, rule) in self._shapes.fields(node).items():
                if kind != "token":
                    found.extend(self._unequated(node, field, "down", self._shapes.can_be(rule)))
        return found

    def _root_reason(self, attribute):
        """What is wrong with the root of an attribute first, None if nothing is."""
        _, way, sort, _, root = attribute
        if root is None:
            return None
        if way == "up":
            return "up"
        if any([is_reading(part) for part in parts(root)]):
            return "reads"
        return None if self._sorts.sort_of(root, (None, None)) == sort else "sort"

    def _place_reason(self, equation):
        """What is wrong with an equation first, earlier ones and its expression aside; None if nothing is."""
        node, field, name, _ = equation
        if not self._shapes.is_node(node):
            return "node"
        way = self._attributes.way(name)
        if way is None:
            return "attribute"
        if field is None:
            nodes = [node]
        else:
            kind, rule = self._shapes.fields(node).get(field, ("none", None))
            if kind not in ("one", "many"):
                return "field"
            nodes = self._shapes.can_be(rule)
        if way == ("down" if field is None else "up"):
            return way
        return None if any([self._attributes.has(other, name) for other in nodes]) else "none"

    def _expression_faults(self, beginning, expression, place, sort):
        """A list of the fault of an expression that should have a sort; empty if there is none."""
        wrong = self._sorts.wrong_part(expression, place)
        if wrong is not None:
            return [beginning + ("part", wrong)]
        if self._sorts.sort_of(expression, place) != sort:
            return [beginning + ("sort",)]
        return []

    def _unequated(self, node, field, way, holders):
        """The faults for the attributes of a way that some holders have and for which there is no equation."""
        return [("nodes", node, field, name) for name in self._attributes.names
                if self._attributes.way(name) == way
                and any([self._attributes.has(holder, name) for holder in holders])
                and self._sections.equation(node, field, name) is None]
