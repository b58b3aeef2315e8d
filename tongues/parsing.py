"""Parsing tokens by the rules of a language, with anchors ([D3] to [D6]).

A tree is a tuple (sort, name, first, behind, children): its sort and its name ([D7]), the number of
its first token, the number of the token behind its last one, and its children, pairs of a field and
a tree. What is parsed is told as the list of the trees in a row that it makes.
"""

from tongues.errors import TooDeep
from tongues.tables import END

MOST_ENTERED = 24
MOST_ROWS = 100
# The fields of the operands ahead of and behind an operator.
FIELDS_AHEAD = {"left": "left", "right": "left", "none": "left", "postfix": "operand", "prefix": None}
FIELDS_BEHIND = {"left": "right", "right": "right", "none": "right", "prefix": "operand"}
# How many levels the operand behind an operator lies behind the level of the operator.
LEVELS_BEHIND = {"left": 1, "right": 0, "none": 1, "prefix": 0}


class Parser:
    """Parses tokens; at is the number of the next one."""

    def __init__(self, language, given):
        self.language = language
        self.tables = language.settled_tables()
        self.given = given
        self.at = 0
        self.entered = 0
        self.operations = 0

    def whole(self, name):
        """The trees of all tokens, parsed as a rule."""
        trees = self.rule(name, [END])
        return trees + self.skipped([END])

    def next_kind(self):
        """The kind of the next token, or the end."""
        if self.at == len(self.given):
            return END
        return self.given[self.at][0]

    def used(self):
        """The tree of the next token, which is used up."""
        self.at += 1
        return ("token", self.given[self.at - 1][0], self.at - 1, self.at, ())

    def missing(self, name):
        """The tree of something that is missing here."""
        return ("missing", name, self.at, self.at, ())

    def skipped(self, kinds):
        """Skips up to some kinds: the tree of what is skipped, if there is anything."""
        first = self.at
        while self.at < len(self.given) and self.next_kind() not in kinds:
            self.at += 1
        if self.at == first:
            return []
        return [("skipped", None, first, self.at, ())]

    def expected(self, kind, anchors):
        """Parses a token or word that is expected."""
        trees = self.skipped(widened(anchors, [kind]))
        if self.next_kind() == kind:
            trees.append(self.used())
        else:
            trees.append(self.missing(kind))
        return trees

    def rule(self, name, anchors):
        """Parses a rule."""
        trees = []
        if not self.tables.is_empty(name):
            trees = self.skipped(widened(anchors, self.tables.firsts(name)))
            if not self.tables.begins(name, self.next_kind()):
                return trees + [self.missing(("node", name))]
        return trees + self.within(self.language.rule(name), anchors)

    def within(self, rule, anchors):
        """Parses a rule that is entered."""
        if self.entered == MOST_ENTERED:
            raise TooDeep("too many rules are entered")
        self.entered += 1
        if rule[0] == "node":
            trees = [self.node(rule, anchors)]
        elif rule[0] == "choice":
            trees = self.rule(self.chosen(rule), anchors)
        else:
            trees = self.expression(rule, 0, anchors)
        self.entered -= 1
        return trees

    def chosen(self, choice):
        """The name of the alternative that is parsed."""
        kind = self.next_kind()
        for name in choice[2]:
            if self.tables.begins(name, kind):
                return name
        return [name for name in choice[2] if self.tables.is_empty(name)][0]

    def node(self, rule, anchors):
        """The tree of a node rule."""
        first = self.at
        children = []
        for part, wider in zip(rule[2], self.part_anchors(rule[2], anchors)):
            field = None if part[0] == "word" else part[2]
            children.extend(in_field(field, self.part(part, wider)))
        return ("node", rule[1], first, self.at, tuple(children))

    def part_anchors(self, parts, anchors):
        """For each part of a node its anchors: those given, and what each later part can begin with."""
        found = []
        for part in reversed(parts):
            found.append(anchors)
            anchors = widened(anchors, self.tables.part_firsts(part))
        return list(reversed(found))

    def part(self, part, anchors):
        """Parses a part of a node."""
        sort, name = part[0], part[1]
        if sort == "word":
            return self.expected(("word", name), anchors)
        if sort == "token":
            return self.expected(("rule", name), anchors)
        if sort == "many":
            return self.many(name, part[3], anchors)
        if sort == "child" or self.tables.begins(name, self.next_kind()):
            return self.rule(name, anchors)
        return []

    def many(self, name, word, anchors):
        """Parses a rule any number of times, with a word between if it is not None."""
        outer = widened(anchors, self.tables.firsts(name))
        trees = self.skipped(outer)
        if not self.tables.begins(name, self.next_kind()):
            return trees
        if word is None:
            return trees + self.many_alone(name, outer)
        return trees + self.many_between(name, ("word", word), widened(outer, [("word", word)]))

    def many_alone(self, name, anchors):
        """Parses a rule once and again without a word between."""
        trees = []
        while self.tables.begins(name, self.next_kind()):
            trees.extend(self.rule(name, anchors))
            trees.extend(self.skipped(anchors))
        return trees

    def many_between(self, name, word, anchors):
        """Parses a rule once and again with a word between."""
        trees = self.rule(name, anchors)
        while True:
            trees.extend(self.skipped(anchors))
            if self.next_kind() == word:
                trees.append(self.used())
            elif self.tables.begins(name, self.next_kind()):
                trees.append(self.missing(word))
            else:
                return trees
            trees.extend(self.rule(name, anchors))

    def expression(self, rule, level, anchors):
        """Parses an expression of a level; in one method, so that calls are not nested deeper than needed."""
        # The nodes of these operations will stand around whatever is parsed here.
        if self.operations == MOST_ROWS:
            raise TooDeep("too many rows stand one within the other")
        if level == len(rule[3]):
            return self.innermost(rule, anchors)
        way, pairs = rule[3][level]
        if way == "prefix" and self.operation(pairs) is None:
            return self.expression(rule, level + 1, anchors)
        first = self.at
        wider = widened(anchors, [("word", word) for word, _ in pairs])
        trees = [] if way == "prefix" else self.expression(rule, level + 1, wider)
        name = self.operation(pairs)
        while name is not None:
            children = in_field(FIELDS_AHEAD[way], trees)
            children.append((None, self.used()))
            if way != "postfix":
                self.operations += 1
                operand = self.expression(rule, level + LEVELS_BEHIND[way], wider if way == "left" else anchors)
                self.operations -= 1
                children.extend(in_field(FIELDS_BEHIND[way], operand))
            trees = [("node", name, first, self.at, tuple(children))]
            name = self.operation(pairs) if way in ("left", "postfix") else None
        return trees

    def operation(self, pairs):
        """The name of the node that the next token makes as one of these operators, None if it is none."""
        kind = self.next_kind()
        for word, name in pairs:
            if kind == ("word", word):
                return name
        return None

    def innermost(self, rule, anchors):
        """Parses an expression behind the last level: in brackets, or the base."""
        if rule[4] is None or self.next_kind() != ("word", rule[4][0]):
            return self.rule(rule[2], anchors)
        first = self.at
        close = ("word", rule[4][1])
        children = [(None, self.used())]
        children.extend(in_field("inside", self.rule(rule[1], widened(anchors, [close]))))
        children.extend(in_field(None, self.expected(close, anchors)))
        return [("node", rule[1], first, self.at, tuple(children))]


def widened(anchors, kinds):
    """Anchors with some further kinds."""
    wider = {kind: True for kind in anchors}
    for kind in kinds:
        wider[kind] = True
    return wider


def in_field(field, trees):
    """Trees as children in a field."""
    return [(field, tree) for tree in trees]
