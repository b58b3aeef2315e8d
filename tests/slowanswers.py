"""The answers of part I by its words, in another way: from the rows and tokens of the trees, each question anew."""

from tests.slowinstances import CYCLE, SlowInstances, Unknown
from tests.slownames import Slow
from tongues.tokens import tokens


class SlowAnswers:
    def __init__(self, project):
        self.project = project
        self.slow = Slow(project)
        self.instances = SlowInstances(project)

    def place(self, file, row):
        return (file, *self.project.tree(file)[row][4:])

    def occurrence(self, file, position):
        for row in self.slow.occurrences(file):
            if self.project.tree(file)[row][4] <= position < self.project.tree(file)[row][5]:
                return row
        return None

    def definition(self, file, position):
        row = self.occurrence(file, position)
        return None if row is None else tuple(self.place(*one) for one in self.slow.leads(file, row)[1])

    def uses(self, file, position):
        row = self.occurrence(file, position)
        if row is None:
            return None
        found = [(file, row)] if self.slow.fact(file, row)[0] == "declares" else self.slow.leads(file, row)[1]
        if len(found) != 1:
            return None
        return tuple(self.place(other, one) for other in self.project.file_names()
                     for one in self.slow.occurrences(other)
                     if self.slow.fact(other, one)[0] != "declares" and found[0] in self.slow.leads(other, one)[1])

    def outline(self, file):
        rows = self.slow.occurrences(file, "declares")
        told = []
        for row in rows:
            around, scope = None, self.slow.scope_of(file, row)
            own = self.slow.row(file, row)[0]
            while scope is not None and around is None:
                inner = [number for number, other in enumerate(rows) if self.slow.row(file, other)[0] == scope]
                if inner and scope != own:
                    around = inner[0]
                scope = self.slow.lies(file, scope)
            told.append((around, *self.place(file, row)[1:], self.slow.fact(file, row)[3], self.slow.text(file, row)))
        return tuple(told)

    def token_at(self, file, position):
        found = [row for row, one in enumerate(self.project.tree(file))
                 if one[2] == "token" and one[4] <= position < one[5]]
        return found[0] if found else None

    def tokens_within(self, file, row):
        """The stretches of all tokens of a node, skipped ones among them."""
        tree = self.project.tree(file)
        end = row + 1
        while end < len(tree) and tree[end][0] is not None and tree[end][0] >= row:
            end += 1
        stretches = [one[4:] for one in tree[row:end] if one[2] in ("token", "skipped")]
        language = self.project.language(file)
        return [token[1:3] for token in tokens(language.lexer, self.project.text(file))
                if not language.lexer.is_skipped(token[0])
                and any(start <= token[1] and token[2] <= stop for start, stop in stretches)]

    def node_at(self, file, position):
        tree = self.project.tree(file)
        token = self.token_at(file, position)
        if token is not None:
            return tree[token][0]
        found = None
        for row, one in enumerate(tree):
            inner = self.tokens_within(file, row) if one[2] == "node" else []
            if inner and inner[0][1] <= position and inner[-1][1] > position:
                found = row
        return found

    def visible(self, file, position, space):
        tree = self.project.tree(file)
        token = self.token_at(file, position)
        row, field = self.node_at(file, position), None if token is None else tree[token][1]
        scope = None
        while row is not None:
            if self.slow.is_scope(file, row):
                left_out = self.slow.facts(file, "opens", tree[row][3])[0][2:]
                if field is None or field not in left_out:
                    scope = row
                    break
            row, field = tree[row][0], tree[row][1]
        start = position if token is None else tree[token][4]
        post = ("scope", file, self.slow.number(file, scope))
        names = sorted({self.slow.text(other, one) for other in self.project.file_names()
                        for one in self.slow.occurrences(other)})
        told = [(name, self.slow.search(post, space, name, start)[1]) for name in names]
        return tuple((name, tuple(self.place(*one) for one in found)) for name, found in told if found)

    def values(self, file, row):
        return tuple((name, self.instances.value((file, row, name))) for name in self.instances.names(file, row))

    def hover(self, file, position):
        row = self.node_at(file, position)
        while row is not None and not self.instances.is_node(file, row):
            row = self.project.tree(file)[row][0]
        return None if row is None else (row, self.values(file, row))

    def explain(self, file, row, attribute):
        told, listed = [], []

        def write(around, instance):
            number = len(told)
            told.append((around, *instance, self.instances.value(instance)))
            if instance not in listed:
                listed.append(instance)
                for read in self.instances.told_reads(instance):
                    write(number, read)

        write(None, (file, row, attribute))
        return tuple(told)

    def problems(self, file):
        tree, told, slow = self.project.tree(file), [], self.slow
        for row, (_, _, sort, name, start, stop) in enumerate(tree):
            if sort in ("missing", "skipped"):
                told.append((start, stop, sort, name[1] if sort == "missing" else ""))
            if sort == "node" and slow.facts(file, "brings", name):
                token = slow.token(file, row, slow.facts(file, "brings", name)[0][2])
                if token is not None and slow.brought(file, row) not in self.project.file_names():
                    told.append((*tree[token][4:], "no file", slow.brought(file, row)))
        for row in slow.occurrences(file):
            fact, many = slow.fact(file, row), len(slow.leads(file, row)[1])
            word = None if many == 1 else "several" if many else "nowhere"
            if fact[0] == "declares":
                others = [other for other in slow.occurrences(file, "declares") if other < row
                          and slow.text(file, other) == slow.text(file, row) and slow.fact(file, other)[3] == fact[3]
                          and slow.scope_of(file, other) == slow.scope_of(file, row)]
                word = "twice" if others else None
            if word:
                told.append((*tree[row][4:], word, slow.text(file, row)))
        told.extend(self.checks(file))
        told.extend([(*tree[row][4:], "cycle", name) for other, row, name in self.instances.rings() if other == file])
        return tuple(sorted(told))

    def checks(self, file):
        told = []
        for row, one in enumerate(self.project.tree(file)):
            for node, condition, message in self.instances.sections[file].checks:
                if self.instances.is_node(file, row) and one[3] == node \
                        and self.expression(file, row, condition) == ("boolean", False):
                    text = self.expression(file, row, message)
                    told.append((*one[4:], "check", text[1] if text[0] == "text" else ""))
        return told

    def expression(self, file, row, expression):
        self.instances.reads["check"] = []
        try:
            return self.instances.expression(expression, "check", file, (row, None, None))
        except Unknown:
            return CYCLE
