"""What an editor asks of a project (part I)."""

from tongues.instances import Instances
from tongues.lookups import Search
from tongues.trees import parser_tokens_of


class Answers:
    """Answers questions about a project; `instances` are those of the project."""

    def __init__(self, project):
        self.project = project
        self.instances = Instances(project)
        self._names = self.instances.names

    def definition(self, file, position):
        """The declarations to which the occurrence at a position leads, None if there is no occurrence."""
        row = self._names.of_file(file).row_at(position)
        return None if row is None else self._names.places(self._names.row_leads(file, row))

    def uses(self, file, position):
        """The references and listed names that lead to the one declaration that is meant at a position, or None."""
        names = self._names.of_file(file)
        row = names.row_at(position)
        if row is None:
            return None
        meant = (file, row)
        if names.occurrence(row).role != "declares":
            leads = self._names.row_leads(file, row)
            if len(leads) != 1:
                return None
            meant = leads[0]
        found = [(other, one.row) for other, one in self._names.occurrences()
                 if one.role != "declares" and meant in self._names.row_leads(other, one.row)]
        return self._names.places(found)

    def outline(self, file):
        """The tuple of the declarations of a file, each (around, start, stop, space, name)."""
        names = self._names.of_file(file)
        declarations = [one for one in names.occurrences if one.role == "declares"]
        openers = {}
        for number, one in enumerate(declarations):
            openers.setdefault(names.opened_scope(one.node), number)
        return tuple([(declaration_around(names, one, openers), one.start, one.stop, one.space, one.name)
                      for one in declarations])

    def node_at(self, file, position):
        """The row of the node around a position, None if there is none."""
        tree = self.project.tree(file)
        token = self._token_at(file, position)
        if token is not None:
            return tree[token][0]
        stops = {start: stop for _, start, stop, _, _ in self._parser_tokens(file)}
        found = None
        for row, (_, _, sort, _, start, stop) in enumerate(tree):
            # A node that has tokens ahead and behind has its first token ahead and its last one behind.
            if sort == "node" and start < stop and stops[start] <= position < stop:
                found = row
        return found

    def visible(self, file, position, space):
        """The tuple of the names that a reference at a position could have, each with what it would lead to."""
        token = self._token_at(file, position)
        start = position if token is None else self.project.tree(file)[token][4]
        first = ("scope", file, self._scope_at(file, position))
        declared = sorted({one.name for _, one in self._names.occurrences()
                           if one.role == "declares" and one.space == space})
        found = []
        for name in declared:
            search = Search(self._names, space, name, start)
            search.go_from(first)
            if search.found:
                found.append((name, self._names.places(search.found)))
        return tuple(found)

    def hover(self, file, position):
        """The node around a position that is no brackets, and its values; None if there is none."""
        tree = self.project.tree(file)
        nodes = self.instances.of_file(file).nodes
        row = self.node_at(file, position)
        while row is not None and not nodes.is_node(row):
            row = tree[row][0]
        return None if row is None else (row, tuple(self.instances.told_values(file, row)))

    def explain(self, file, row, attribute):
        """The tuple of the rows (around, file, row, attribute, value) of an instance and of all that it reads."""
        instances = self.instances
        found = []
        listed = {}
        waiting = [(None, (file, row, attribute))]
        while waiting:
            around, (other, node, name) = waiting.pop()
            number = len(found)
            found.append((around, other, node, name, instances.value(other, node, name)))
            if (other, node, name) not in listed:
                listed[other, node, name] = True
                # The last one of a list is taken out first, and comes with all below it before the next one.
                waiting.extend([(number, read) for read in reversed(instances.reads(other, node, name))])
        return tuple(found)

    def _parser_tokens(self, file):
        """The list of the tokens of a file that are given to the parser."""
        language = self.project.language(file)
        return parser_tokens_of(language, self.project.text(file), language.modes[0])

    def _token_at(self, file, position):
        """The row of the token at a position, None if there is none."""
        for row, (_, _, sort, _, start, stop) in enumerate(self.project.tree(file)):
            if sort == "token" and start <= position < stop:
                return row
        return None

    def _scope_at(self, file, position):
        """The number of the scope in which a reference lies that is put at a position."""
        tree = self.project.tree(file)
        names = self._names.of_file(file)
        token = self._token_at(file, position)
        field = None if token is None else tree[token][1]
        row = self.node_at(file, position)
        while row is not None:
            scope = names.opened_scope(row)
            # A word, or what is no token, is in no field.
            if scope is not None and not names.is_left_out(row, field):
                return scope
            field = tree[row][1]
            row = tree[row][0]
        return 0


def declaration_around(names, declaration, openers):
    """The number of the nearest declaration outward, None if there is none.

    `openers` is a dict from scopes to the number of the first declaration whose node opens it.
    """
    own = names.opened_scope(declaration.node)
    scope = declaration.scope
    while scope > 0:
        if scope != own and scope in openers:
            return openers[scope]
        scope = names.scopes[scope][3]
    return None
