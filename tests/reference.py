"""A second way to the trees of part D, close to its words, to which the package's trees are compared."""

from tongues.tables import Tables
from tongues.tokens import tokens

END = ("end",)


class Deep(Exception):
    pass


class Reference:
    """Trees are dicts: sort, name, the tokens in them, the stop of the last token before, and children."""

    def __init__(self, language, text):
        self.language = language
        rows = Tables(language).rows()
        self.firsts = {name: set(firsts) for name, _, firsts, _ in rows}
        self.can_be_empty = {name: empty for name, empty, _, _ in rows}
        self.rest = [token for token in tokens(language.lexer, text) if not language.lexer.is_skipped(token[0])]
        self.last = 0
        self.open_rules = 0

    @property
    def next(self):
        return self.rest[0][0] if self.rest else END

    def leaf(self, sort, name, taken):
        tree = {"sort": sort, "name": name, "tokens": taken, "last": self.last, "children": []}
        if taken:
            self.last = taken[-1][2]
        return tree

    def group(self, name, last, children):
        taken = [token for _, child in children for token in child["tokens"]]
        return {"sort": "node", "name": name, "tokens": taken, "last": last, "children": children}

    def take(self):
        token = self.rest.pop(0)
        return self.leaf("token", token[0], [token])

    def skip_up_to(self, kinds):
        taken = []
        while self.rest and self.next not in kinds:
            taken.append(self.rest.pop(0))
        return [self.leaf("skipped", None, taken)] if taken else []

    def expect(self, kind, anchors):
        if self.next == kind:
            return [self.take()]
        skipped = self.skip_up_to({kind} | anchors)
        return skipped + [self.take() if self.next == kind else self.leaf("missing", kind, [])]

    def parse(self, name, anchors):
        if self.next in self.firsts[name] or self.can_be_empty[name]:
            return self.enter(name, anchors)
        skipped = self.skip_up_to(self.firsts[name] | anchors)
        if self.next in self.firsts[name]:
            return skipped + self.enter(name, anchors)
        return skipped + [self.leaf("missing", ("node", name), [])]

    def enter(self, name, anchors):
        if self.open_rules >= 24:
            raise Deep
        self.open_rules += 1
        rule = self.language.rule(name)
        trees = getattr(self, "enter_" + rule[0])(rule, anchors)
        self.open_rules -= 1
        return trees

    def enter_choice(self, rule, anchors):
        fitting = [name for name in rule[2] if self.next in self.firsts[name]]
        fitting += [name for name in rule[2] if self.can_be_empty[name]]
        return self.parse(fitting[0], anchors)

    def begins(self, part):
        if part[0] in ("word", "token"):
            return {("word" if part[0] == "word" else "rule", part[1])}
        return self.firsts[part[1]]

    def enter_node(self, rule, anchors):
        last, children = self.last, []
        for place, part in enumerate(rule[2]):
            inner = set(anchors).union(*[self.begins(later) for later in rule[2][place + 1:]])
            field = None if part[0] == "word" else part[2]
            children += [(field, tree) for tree in getattr(self, "part_" + part[0])(part, inner)]
        return [self.group(rule[1], last, children)]

    def part_word(self, part, anchors):
        return self.expect(("word", part[1]), anchors)

    def part_token(self, part, anchors):
        return self.expect(("rule", part[1]), anchors)

    def part_child(self, part, anchors):
        return self.parse(part[1], anchors)

    def part_maybe(self, part, anchors):
        return self.parse(part[1], anchors) if self.next in self.firsts[part[1]] else []

    def part_many(self, part, anchors):
        _, name, _, word = part
        firsts = self.firsts[name]
        inner = anchors | firsts | ({("word", word)} if word is not None else set())
        trees = self.skip_up_to(firsts | anchors)
        while self.next in firsts or (word is not None and trees and trees[-1] == "go on"):
            if trees and trees[-1] == "go on":
                trees.pop()
            trees += self.parse(name, inner)
            if word is None:
                trees += self.skip_up_to(firsts | anchors)
                continue
            trees += self.skip_up_to(inner)
            if self.next == ("word", word):
                trees += [self.take(), "go on"]
            elif self.next in firsts:
                trees += [self.leaf("missing", ("word", word), []), "go on"]
        return trees

    def enter_operators(self, rule, anchors):
        return self.level(rule, 0, anchors)

    def level(self, rule, number, anchors):
        if number == len(rule[3]):
            return self.base(rule, anchors)
        way, pairs = rule[3][number]
        made = {("word", word): name for word, name in pairs}
        last = self.last
        if way == "prefix":
            if self.next not in made:
                return self.level(rule, number + 1, anchors)
            name, operator = made[self.next], self.take()
            operand = self.level(rule, number, anchors)
            return [self.group(name, last, [(None, operator)] + [("operand", tree) for tree in operand])]
        trees = self.level(rule, number + 1, anchors | set(made))
        if way == "postfix":
            while self.next in made:
                name = made[self.next]
                trees = [self.group(name, last, [("operand", tree) for tree in trees] + [(None, self.take())])]
            return trees
        while self.next in made:
            name = made[self.next]
            children = [("left", tree) for tree in trees] + [(None, self.take())]
            if way == "left":
                right = self.level(rule, number + 1, anchors | set(made))
            else:
                right = self.level(rule, number if way == "right" else number + 1, anchors)
            trees = [self.group(name, last, children + [("right", tree) for tree in right])]
            if way != "left":
                return trees
        return trees

    def base(self, rule, anchors):
        if rule[4] is None or self.next != ("word", rule[4][0]):
            return self.parse(rule[2], anchors)
        last, close = self.last, ("word", rule[4][1])
        children = [(None, self.take())]
        children += [("inside", tree) for tree in self.parse(rule[1], anchors | {close})]
        children += [(None, tree) for tree in self.expect(close, anchors)]
        return [self.group(rule[1], last, children)]


def reference_tree(language, text):
    """The rows of the tree of a text; None for a text that is too deep."""
    reference = Reference(language, text)
    rows = []
    deepest = 0

    def write(tree, around, field, depth):
        nonlocal deepest
        deepest = max(deepest, depth)
        taken = tree["tokens"]
        start, stop = (taken[0][1], taken[-1][2]) if taken else (tree["last"], tree["last"])
        number = len(rows)
        rows.append((around, field, tree["sort"], tree["name"], start, stop))
        for inner, child in tree["children"]:
            write(child, number, inner, depth + 1)

    try:
        trees = reference.parse(language.start, {END})
    except Deep:
        return None
    for tree in trees + reference.skip_up_to({END}):
        write(tree, None, None, 1)
    return tuple(rows) if deepest <= 100 else None
