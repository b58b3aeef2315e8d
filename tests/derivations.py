"""Random sentences of a language with their trees, made from the rules alone ([C4])."""

SAMPLES = {"word": ("a", "bc", "foo"), "number": ("0", "12")}


class Deriver:
    """Derives sentences: trees, and the row of what happens, rules that begin and end among it."""

    def __init__(self, language, rng):
        self.language = language
        self.rng = rng
        self.heights = {rule[1]: 99 for rule in language.rules}
        for _ in language.rules:
            for rule in language.rules:
                self.heights[rule[1]] = min(self.heights[rule[1]], 1 + self.height(rule))
        self.events = []

    def height(self, rule):
        if rule[0] == "node":
            return max([self.heights[part[1]] for part in rule[2] if part[0] == "child"], default=0)
        if rule[0] == "choice":
            return min(self.heights[name] for name in rule[2])
        return self.heights[rule[2]]

    def often(self, depth):
        """True now and then, seldom where the derivation is deep already."""
        return self.rng.random() < (0.4 if depth < 8 else 0.02)

    def kind(self, kind):
        self.events.append(("kind", kind))
        return ("token", kind)

    def rule(self, name, depth):
        """The tree of a sentence of a rule."""
        rule = self.language.rule(name)
        self.events.append(("in", name))
        if rule[0] == "node":
            children = []
            for part in rule[2]:
                children.extend(self.part(part, depth))
            tree = ("node", name, children)
        elif rule[0] == "choice":
            lowest = min(self.heights[one] for one in rule[2])
            names = [one for one in rule[2] if depth < 6 or self.heights[one] == lowest]
            tree = self.rule(self.rng.choice(names), depth + 1)
        else:
            tree = self.expression(rule, 0, depth)
        self.events.append(("out", name))
        return tree

    def part(self, part, depth):
        if part[0] == "word":
            return [(None, self.kind(("word", part[1])))]
        if part[0] == "token":
            return [(part[2], self.kind(("rule", part[1])))]
        if part[0] == "child":
            return [(part[2], self.rule(part[1], depth + 1))]
        children = []
        while self.often(depth) and (part[0] == "many" or not children):
            if children and part[3] is not None:
                children.append((part[2], self.kind(("word", part[3]))))
            children.append((part[2], self.rule(part[1], depth + 1)))
        return children

    def expression(self, rule, level, depth):
        if level == len(rule[3]):
            return self.innermost(rule, depth)
        way, pairs = rule[3][level]
        word, name = self.rng.choice(pairs)
        if way == "prefix":
            if not self.often(depth):
                return self.expression(rule, level + 1, depth)
            operator = self.kind(("word", word))
            return ("node", name, [(None, operator), ("operand", self.expression(rule, level, depth + 1))])
        tree = self.expression(rule, level + 1, depth)
        while self.often(depth):
            word, name = self.rng.choice(pairs)
            operator = self.kind(("word", word))
            if way == "postfix":
                tree = ("node", name, [("operand", tree), (None, operator)])
            else:
                behind = level if way == "right" else level + 1
                right = self.expression(rule, behind, depth + 1)
                tree = ("node", name, [("left", tree), (None, operator), ("right", right)])
            if way in ("right", "none"):
                break
            depth += 1
        return tree

    def innermost(self, rule, depth):
        if rule[4] is None or not self.often(depth):
            return self.rule(rule[2], depth + 1)
        begin = self.kind(("word", rule[4][0]))
        inside = self.rule(rule[1], depth + 1)
        return ("node", rule[1], [(None, begin), ("inside", inside), (None, self.kind(("word", rule[4][1])))])

    def sentence(self):
        """The tree of a sentence of start."""
        self.events = []
        return self.rule(self.language.start, 0)

    def kinds(self):
        return [one for what, one in self.events if what == "kind"]

    def text(self, kinds):
        """A text with tokens of these kinds, and their stretches."""
        text, stretches = "", []
        for kind in kinds:
            text += self.rng.choice((" ", "\n", "  "))
            part = kind[1] if kind[0] == "word" else "" if kind == ("end",) else "$"
            if kind[0] == "rule":
                part = self.rng.choice(SAMPLES[kind[1]])
            stretches.append((len(text), len(text) + len(part)))
            text += part
        return text, stretches


def rows_of(tree, stretches):
    """The rows of the tree of a sentence, by the stretches of its tokens."""
    rows, taken = [], [0]

    def write(part, around, field):
        number = len(rows)
        rows.append(None)
        first = taken[0]
        if part[0] == "token":
            taken[0] += 1
        else:
            for inner_field, child in part[2]:
                write(child, number, inner_field)
        before = stretches[first - 1][1] if first else 0
        start, stop = (stretches[first][0], stretches[taken[0] - 1][1]) if taken[0] > first else (before, before)
        rows[number] = (around, field, part[0], part[1], start, stop)

    write(tree, None, None)
    return tuple(rows)
