"""Instances of attributes, their values, and the cycles that they make ([H16] to [H18])."""

from tongues.attributes import Attributes
from tongues.errors import TongueError
from tongues.lookups import Names
from tongues.nodes import Nodes
from tongues.readings import Evaluation, Place, Stopped
from tongues.sections import Sections
from tongues.shapes import Shapes
from tongues.values import ABSENT

CYCLE = ("cycle",)


class NoInstance(TongueError):
    """There is no such instance: no such row, no node that is no brackets, or no such attribute there."""


class FileNodes:
    """The nodes of a file, its text, and what its language says about attributes."""

    def __init__(self, project, file):
        language = project.language(file)
        self.text = project.text(file)
        self.nodes = Nodes(language, project.tree(file))
        self.sections = Sections(language)
        self._attributes = Attributes(self.sections, Shapes(language))

    def names_at(self, row):
        """The list of the names of the attributes of the node in a row, in order."""
        node = self.nodes.name(row)
        return [name for name in self._attributes.names if self._attributes.has(node, name)]

    def equation(self, file, row, name):
        """The expression for an attribute at a node, None if there is none, and the place where it is evaluated."""
        if self._attributes.way(name) == "up":
            return (self.sections.equation(self.nodes.name(row), None, name), Place(file, row))
        around, field = self.nodes.around(row)
        if around is None:
            return (self.sections.attribute(name)[4], Place(file, None))
        return (self.sections.equation(self.nodes.name(around), field, name), Place(file, around, field, row))


class Meanings:
    """Tells which nodes the names of a project mean."""

    def __init__(self, project, names):
        self._project = project
        self._names = names

    def node_meant(self, file, row):
        """The (file, row) of the node of the only declaration that a token leads to, None if there is none.

        None, too, if that declaration stands in a file of another language.
        """
        leads = self._names.row_leads(file, row)
        if len(leads) != 1 or self._project.language_name(leads[0][0]) != self._project.language_name(file):
            return None
        other, token = leads[0]
        return (other, self._project.tree(other)[token][0])


class Instances:
    """The instances of a project: attributes at nodes, told by (file, row, attribute).

    `names` are the names of the project. What was found is kept.
    """

    def __init__(self, project):
        self.names = Names(project)
        self._project = project
        self._meanings = Meanings(project, self.names)
        self._files = {}
        self._known = {}
        self._reads = {}
        self._rings = None

    def attributes(self, file, row):
        """The list of the names of the attributes of a node, in order. Raises NoFile, then NoInstance."""
        nodes = self.of_file(file)
        if not nodes.nodes.is_node(row):
            raise NoInstance("there is no such node")
        return nodes.names_at(row)

    def values(self, file, row):
        """The list of the pairs of the name and the value of each attribute of a node."""
        return self.told_values(file, row)

    def told_values(self, file, row):
        """The same under a name that no dict has for its own values."""
        return [(name, self._settled((file, row, name))) for name in self.attributes(file, row)]

    def value(self, file, row, attribute):
        """The value of an instance."""
        return self._settled(self._checked(file, row, attribute))

    def reads(self, file, row, attribute):
        """The tuple of the instances that an instance reads, up to the first cyclic one."""
        instance = self._checked(file, row, attribute)
        self._settled(instance)
        return self._reads[instance]

    def cycle(self, file, row, attribute):
        """The cycle to which a cyclic instance leads, None if the instance is not cyclic."""
        instance = self._checked(file, row, attribute)
        if self._settled(instance) != CYCLE:
            return None
        chain = {}
        while instance not in chain:
            chain[instance] = True
            instance = self._reads[instance][-1]
        found = list(chain)
        return tuple(found[found.index(instance):])

    def of_file(self, file):
        """The nodes of a file. Raises NoFile."""
        if file not in self._files:
            self._files[file] = FileNodes(self._project, file)
        return self._files[file]

    def expression_value(self, file, row, expression):
        """The value of an expression that is evaluated at a node; cyclic if it reads something cyclic."""
        while True:
            evaluation = Evaluation(self._known, self._meanings, self.of_file(file), Place(file, row))
            try:
                return evaluation.value(expression)
            except Stopped:
                if self._settled(evaluation.reads[-1]) == CYCLE:
                    return CYCLE

    def rings(self):
        """The list of all cycles of instances of the project, each with its first instance ahead."""
        if self._rings is None:
            self._rings = self._found_rings()
        return list(self._rings)

    def _found_rings(self):
        everything = [(file, row, name) for file in self._project.file_names()
                      for row in self.of_file(file).nodes.numbers() for name in self.of_file(file).names_at(row)]
        found = []
        ringed = set()
        for instance in everything:
            # Instances come in order, so that a ring is met at its first one.
            if self._settled(instance) == CYCLE and instance not in ringed:
                ring = self.cycle(instance[0], instance[1], instance[2])
                if ring[0] == instance:
                    found.append(ring)
                    for other in ring:
                        ringed.add(other)
        return found

    def _checked(self, file, row, attribute):
        """An instance that there is. Raises NoFile, then NoInstance."""
        if attribute not in self.attributes(file, row):
            raise NoInstance("the node does not have the attribute")
        return (file, row, attribute)

    def _settled(self, instance):
        """The value of an instance; all that it waits for is evaluated first.

        A list of the instances that wait for one another stands in for calls within calls, which
        could be nested too deep. If one of them is read again, or a cyclic one, all are cyclic.
        """
        waiting = [] if instance in self._known else [instance]
        is_waiting = {instance: True}
        while waiting:
            wanted = self._attempt(waiting[-1])
            if wanted is None:
                settled = waiting.pop()
                del is_waiting[settled]
            elif wanted in is_waiting or wanted in self._known:
                for other in waiting:
                    self._known[other] = CYCLE
                waiting = []
            else:
                waiting.append(wanted)
                is_waiting[wanted] = True
        return self._known[instance]

    def _attempt(self, instance):
        """Evaluates an instance; what it has to wait for, None if it is known then."""
        file, row, name = instance
        expression, place = self.of_file(file).equation(file, row, name)
        evaluation = Evaluation(self._known, self._meanings, self.of_file(file), place)
        try:
            value = ABSENT if expression is None else evaluation.value(expression)
        except Stopped:
            self._reads[instance] = tuple(evaluation.reads)
            return evaluation.reads[-1]
        self._known[instance] = value
        self._reads[instance] = tuple(evaluation.reads)
        return None
