"""What the nodes of a language have, and which nodes its rules can be ([H1])."""

from tongues.fields import fields_of_nodes


class Shapes:
    """The nodes of a language; `nodes` is the list of their names, node rules first."""

    def __init__(self, language):
        self._language = language
        self._fields = fields_of_nodes(language)
        self._possible = {}
        self.nodes = list(self._fields)

    def is_node(self, name):
        """True for the name of a node."""
        return name in self._fields

    def fields(self, node):
        """A dict from the fields of a node, in order, to pairs of "token", "one" or "many" and a rule."""
        return dict(self._fields.get(node, {}))

    def can_be(self, name):
        """The list of the nodes that a rule or a node can be, in the order of the nodes."""
        if name not in self._possible:
            reached = self._reached_from(name)
            self._possible[name] = [node for node in self._fields if node in reached]
        return list(self._possible[name])

    def _reached_from(self, name):
        """A dict with a name and the names of all rules and nodes that it can be as its keys."""
        reached = {}
        waiting = [name]
        while waiting:
            other = waiting.pop()
            if other not in reached:
                reached[other] = True
                waiting.extend(self._ways_on(other))
        return reached

    def _ways_on(self, name):
        """The names of the rules and nodes that a rule can be directly."""
        rule = self._language.rule(name)
        if rule is None or rule[0] == "node":
            return ()
        if rule[0] == "choice":
            return rule[2]
        return tuple([node for _, pairs in rule[3] for _, node in pairs]) + (rule[2],)
