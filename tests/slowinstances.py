"""The values of instances by the words of part H, in another way: level by level, all instances of a project at once."""

from tests.slownames import Slow
from tongues.sections import Sections
from tongues.shapes import Shapes
from tongues.values import gathered, worked

ABSENT, CYCLE = ("absent",), ("cycle",)


class Unknown(Exception):
    pass


class SlowInstances:
    def __init__(self, project):
        self.project = project
        self.slow = Slow(project)
        self.sections = {file: Sections(project.language(file)) for file in project.file_names()}
        self.brackets = {file: [rule[1] for rule in project.language(file).rules if rule[0] == "operators"]
                         for file in project.file_names()}
        self.all = [(file, row, name) for file in project.file_names() for row in range(len(project.tree(file)))
                    for name in self.names(file, row)]
        self.known, self.reads = {}, {}
        while True:
            level = {}
            for instance in self.all:
                self.reads[instance] = []
                try:
                    level[instance] = self.evaluate(instance)
                except Unknown:
                    pass
            if level == self.known:
                break
            self.known = level

    def value(self, instance):
        return self.known.get(instance, CYCLE)

    def is_node(self, file, row):
        one = self.project.tree(file)[row]
        return one[2] == "node" and one[3] not in self.brackets[file]

    def names(self, file, row):
        if not self.is_node(file, row):
            return []
        shapes = Shapes(self.project.language(file))
        name = self.project.tree(file)[row][3]
        return [attribute[0] for attribute in self.sections[file].attributes
                if any(name in shapes.can_be(rule) for rule in attribute[3])]

    def evaluate(self, instance):
        file, row, name = instance
        node = self.project.tree(file)[row][3]
        _, way, _, _, root = self.sections[file].attribute(name)
        place = (row, None, None)
        if way == "up":
            expression = self.sections[file].equation(node, None, name)
        else:
            around, field = self.around(file, row)
            place = (around, field, row)
            expression = root if around is None else self.sections[file].equation(
                self.project.tree(file)[around][3], field, name)
        return ABSENT if expression is None else self.expression(expression, instance, file, place)

    def around(self, file, row):
        tree = self.project.tree(file)
        while tree[row][0] is not None and tree[tree[row][0]][3] in self.brackets[file]:
            row = tree[row][0]
        return tree[row][0], tree[row][1] if tree[row][0] is not None else None

    def children(self, file, row, field):
        found = []
        for number, one in enumerate(self.project.tree(file)):
            if one[:3] == (row, field, "node"):
                found.extend([number] if self.is_node(file, number) else self.children(file, number, "inside"))
        return found

    def read(self, reader, file, row, name):
        self.reads[reader].append((file, row, name))
        if (file, row, name) not in self.known:
            raise Unknown
        return self.known[file, row, name]

    def expression(self, expression, reader, file, place):
        head, rest = expression[0], expression[1:]
        row, outer, child_row = place

        def value(part):
            return self.expression(part, reader, file, place)

        def children():
            return self.children(file, row, rest[0])

        if head in ("integer", "text", "boolean"):
            return expression
        if head == "term":
            total = ("term", rest[0], ())
            for below in [value(part) for part in rest[1]]:
                total = worked("with", [total, below])
            return total
        if head == "own":
            return self.read(reader, file, row, rest[0])
        if head == "child":
            return self.read(reader, file, children()[0], rest[1]) if children() else ABSENT
        if head == "last":
            return self.read(reader, file, children()[-1], rest[1]) if children() else value(rest[2])
        if head == "before":
            siblings = self.children(file, row, outer)
            number = siblings.index(child_row)
            return self.read(reader, file, siblings[number - 1], rest[0]) if number else value(rest[1])
        token = self.slow.token(file, row, rest[0]) if head in ("has", "spelling", "meant") else None
        if head == "has":
            return ("boolean", token is not None or len(children()) > 0)
        if head == "count":
            return ("integer", len(children()))
        if head == "spelling":
            return ABSENT if token is None else ("text", self.slow.text(file, token))
        if head == "meant":
            leads = [] if token is None else self.slow.leads(file, token)[1]
            if len(leads) != 1 or self.project.files()[leads[0][0]][0] != self.project.files()[file][0]:
                return ABSENT
            return self.read(reader, leads[0][0], self.slow.row(*leads[0])[0], rest[1])
        if head in ("sum", "all", "any", "collect", "join"):
            values = [self.read(reader, file, child, rest[1]) for child in children()]
            return gathered(head, values, rest[2] if head == "join" else None)
        if head == "else":
            first = value(rest[0])
            return first if first != ABSENT else value(rest[1])
        if head == "if":
            first = value(rest[0])
            return ABSENT if first == ABSENT else value(rest[1] if first[1] else rest[2])
        return worked(head, [value(part) for part in rest])

    def told_reads(self, instance):
        """The reads up to the first cyclic one."""
        reads = self.reads[instance]
        for number, read in enumerate(reads):
            if read not in self.known:
                return tuple(reads[:number + 1])
        return tuple(reads)

    def cycle(self, instance):
        if instance in self.known:
            return None
        chain = []
        while instance not in chain:
            chain.append(instance)
            instance = self.told_reads(instance)[-1]
        return tuple(chain[chain.index(instance):])

    def rings(self):
        """Each cycle once, told from its first instance by files, rows and the order of attributes."""
        found = []
        for instance in self.all:
            ring = self.cycle(instance)
            if ring is not None and not any(set(ring) == set(other) for other in found):
                found.append(ring)
        firsts = [min(ring, key=self.all.index) for ring in found]
        return sorted(firsts)
