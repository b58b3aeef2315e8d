"""Which nodes have which attributes ([H1])."""


class Attributes:
    """The attributes of a language by their names; of several of one name the first one counts.

    `names` is the list of their names, in order.
    """

    def __init__(self, sections, shapes):
        self.names = []
        self._sections = sections
        self._nodes = {}
        for name, _, _, rules, _ in sections.attributes:
            if name not in self._nodes:
                self.names.append(name)
                self._nodes[name] = {node: True for rule in rules for node in shapes.can_be(rule)}

    def has(self, node, name):
        """True if the node has an attribute of this name."""
        return node in self._nodes.get(name, {})

    def way(self, name):
        """The way of the attribute of this name, None if there is none."""
        attribute = self._sections.attribute(name)
        return None if attribute is None else attribute[1]

    def sort_of(self, name):
        """The sort of the attribute of this name, None if there is none."""
        attribute = self._sections.attribute(name)
        return None if attribute is None else attribute[2]
