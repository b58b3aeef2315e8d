"""Tables of a language: what can be empty, first kinds and kinds behind ([C5], [C6])."""

END = ("end",)


class KindSets:
    """For each of some names a set of kinds, which only grows."""

    def __init__(self, names):
        self._kinds = {name: {} for name in names}

    def widen(self, name, kinds):
        """Puts some kinds into the set of a name."""
        for kind in kinds:
            self._kinds[name][kind] = True

    def of_name(self, name):
        """The list of the kinds in the set of a name."""
        return list(self._kinds[name])

    def has(self, name, kind):
        """True if the kind is in the set of a name."""
        return kind in self._kinds[name]

    def size(self):
        """How many kinds there are in all sets together."""
        return sum([len(kinds) for kinds in self._kinds.values()])


class Tables:
    """The tables of a language without faults of names."""

    def __init__(self, language):
        self._rules = language.rules
        self._order = [END]
        self._order.extend([("word", word) for word in language.words])
        self._order.extend([("rule", rule[0]) for rule in language.tokens])
        names = [rule[1] for rule in language.rules]
        self._empty = {name: False for name in names}
        self._settle_empty()
        self._firsts = KindSets(names)
        self._settle_firsts()
        self._behind = KindSets(names)
        self._behind.widen(language.start, [END])
        self._settle_behind()
        self._ordered_firsts = {name: self.ordered(self._firsts.of_name(name)) for name in names}
        self._ordered_behind = {name: self.ordered(self._behind.of_name(name)) for name in names}

    def rows(self):
        """For each rule its name, whether it can be empty, its first kinds and the kinds behind it."""
        names = [rule[1] for rule in self._rules]
        return tuple([(name, self._empty[name], self.firsts(name), self.behind(name)) for name in names])

    def is_empty(self, name):
        """True if a rule can be empty."""
        return self._empty[name]

    def firsts(self, name):
        """The first kinds of a rule, in order."""
        return self._ordered_firsts[name]

    def behind(self, name):
        """The kinds behind a rule, in order."""
        return self._ordered_behind[name]

    def begins(self, name, kind):
        """True if the kind is one of the first kinds of a rule."""
        return self._firsts.has(name, kind)

    def ordered(self, kinds):
        """Some kinds as a tuple in the order of all kinds, each once."""
        return tuple([kind for kind in self._order if kind in kinds])

    def part_is_empty(self, part):
        """True if a part of a node can be empty."""
        if part[0] == "child":
            return self._empty[part[1]]
        return part[0] in ("maybe", "many")

    def part_firsts(self, part):
        """The list of the kinds with which a part of a node can begin."""
        if part[0] == "word":
            return [("word", part[1])]
        if part[0] == "token":
            return [("rule", part[1])]
        return self._firsts.of_name(part[1])

    def row_firsts(self, parts):
        """The list of the kinds with which a row of parts can begin."""
        kinds = []
        for part in parts:
            kinds.extend(self.part_firsts(part))
            if not self.part_is_empty(part):
                break
        return kinds

    def behind_part(self, node, place):
        """The list of the kinds behind a part of a node rule."""
        parts = node[2][place + 1:]
        kinds = self.row_firsts(parts)
        if all([self.part_is_empty(part) for part in parts]):
            kinds.extend(self._behind.of_name(node[1]))
        return kinds

    def _settle_empty(self):
        is_growing = True
        while is_growing:
            is_growing = False
            for rule in self._rules:
                if not self._empty[rule[1]] and self._rule_is_empty(rule):
                    self._empty[rule[1]] = True
                    is_growing = True

    def _rule_is_empty(self, rule):
        if rule[0] == "node":
            return all([self.part_is_empty(part) for part in rule[2]])
        if rule[0] == "choice":
            return any([self._empty[name] for name in rule[2]])
        return self._empty[rule[2]]

    def _settle_firsts(self):
        size = -1
        while self._firsts.size() > size:
            size = self._firsts.size()
            for rule in self._rules:
                self._firsts.widen(rule[1], self._rule_firsts(rule))

    def _rule_firsts(self, rule):
        if rule[0] == "node":
            return self.row_firsts(rule[2])
        if rule[0] == "choice":
            return [kind for name in rule[2] for kind in self._firsts.of_name(name)]
        return opening_kinds(rule) + self._firsts.of_name(rule[2])

    def _settle_behind(self):
        size = -1
        while self._behind.size() > size:
            size = self._behind.size()
            for rule in self._rules:
                self._widen_within(rule)

    def _widen_within(self, rule):
        """Widens the sets of the rules that occur in a rule."""
        behind = self._behind.of_name(rule[1])
        if rule[0] == "node":
            for place, part in enumerate(rule[2]):
                self._widen_part(rule, place, part)
        elif rule[0] == "choice":
            for name in rule[2]:
                self._behind.widen(name, behind)
        else:
            if rule[4] is not None:
                self._behind.widen(rule[1], [("word", rule[4][1])])
            self._behind.widen(rule[2], joining_kinds(rule) + behind)

    def _widen_part(self, node, place, part):
        if part[0] in ("word", "token"):
            return
        self._behind.widen(part[1], self.behind_part(node, place))
        if part[0] == "many":
            between = self._firsts.of_name(part[1]) if part[3] is None else [("word", part[3])]
            self._behind.widen(part[1], between)


def opening_kinds(rule):
    """The list of the prefix operators of an operators rule, and of open, if it has brackets."""
    kinds = [("word", word) for way, pairs in rule[3] if way == "prefix" for word, _ in pairs]
    if rule[4] is not None:
        kinds.append(("word", rule[4][0]))
    return kinds


def joining_kinds(rule):
    """The list of the operators of an operators rule that are not prefix."""
    return [("word", word) for way, pairs in rule[3] if way != "prefix" for word, _ in pairs]
