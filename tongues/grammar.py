"""The faults of a language ([C7], [C8])."""

from tongues.tables import joining_kinds, opening_kinds


def faults(language):
    """The list of the faults of a language; faults of names stand alone."""
    found = doubled_names(language) + doubled_fields(language) + unknown_names(language)
    if found:
        return found
    found = endless_rules(language)
    found.extend(unreached_rules(language))
    found.extend(rings(language))
    found.extend(empty_parts(language))
    for rule in language.rules:
        found.extend(clashes_of(language.settled_tables(), rule))
    return found


def doubled_names(language):
    """A fault for each name of a rule or of a node of operators that stands earlier, too."""
    names = [rule[1] for rule in language.rules]
    for rule in language.rules:
        if rule[0] == "operators":
            names.extend([name for _, pairs in rule[3] for _, name in pairs])
    return [("rule twice", name, 0, ()) for place, name in enumerate(names) if name in names[:place]]


def doubled_fields(language):
    """A fault for each part of a node with a field that an earlier part of it has."""
    found = []
    for rule in language.rules:
        if rule[0] == "node":
            fields = [part[2] for part in rule[2] if part[0] != "word"]
            found.extend([("field twice", rule[1], 0, (field,))
                          for place, field in enumerate(fields) if field in fields[:place]])
    return found


def unknown_names(language):
    """A fault for each name of a token rule or of a rule that there is not."""
    found = []
    token_names = [rule[0] for rule in language.tokens]
    for rule in language.rules:
        for place, sort, name in named_by(rule):
            if sort == "token" and name not in token_names:
                found.append(("unknown token", rule[1], place, (name,)))
            if sort == "rule" and language.rule(name) is None:
                found.append(("unknown rule", rule[1], place, (name,)))
    if language.rule(language.start) is None:
        found.append(("unknown rule", "start", 0, (language.start,)))
    return found


def named_by(rule):
    """The list of (place, "token" or "rule", name) of the names of token rules and rules in a rule."""
    if rule[0] == "choice":
        return [(place, "rule", name) for place, name in enumerate(rule[2])]
    if rule[0] == "operators":
        return [(0, "rule", rule[2])]
    return [(place, "token" if part[0] == "token" else "rule", part[1])
            for place, part in enumerate(rule[2]) if part[0] != "word"]


def endless_rules(language):
    """A fault for each rule without any sentence."""
    finite = {rule[1]: False for rule in language.rules}
    is_growing = True
    while is_growing:
        is_growing = False
        for rule in language.rules:
            if not finite[rule[1]] and is_finite(rule, finite):
                finite[rule[1]] = True
                is_growing = True
    return [("no finite tree", rule[1], 0, ()) for rule in language.rules if not finite[rule[1]]]


def is_finite(rule, finite):
    """True if a rule has a sentence, by what is known to have one."""
    if rule[0] == "node":
        return all([finite[part[1]] for part in rule[2] if part[0] == "child"])
    if rule[0] == "choice":
        return any([finite[name] for name in rule[2]])
    return finite[rule[2]]


def unreached_rules(language):
    """A fault for each rule other than start that occurs in start in no way."""
    steps = {rule[1]: [name for _, sort, name in named_by(rule) if sort == "rule"] for rule in language.rules}
    reached = reached_from(language.start, steps)
    return [("not reached", rule[1], 0, ()) for rule in language.rules
            if rule[1] != language.start and rule[1] not in reached]


def rings(language):
    """A fault for each rule that can stand at its own beginning."""
    steps = {rule[1]: beginnings(language.settled_tables(), rule) for rule in language.rules}
    return [("begins with itself", rule[1], 0, ()) for rule in language.rules
            if rule[1] in reached_from(rule[1], steps)]


def beginnings(tables, rule):
    """The list of the names of the rules that can stand at the beginning of a rule directly."""
    if rule[0] == "choice":
        return list(rule[2])
    if rule[0] == "operators":
        return [rule[2]]
    names = []
    for part in rule[2]:
        if part[0] not in ("word", "token"):
            names.append(part[1])
        if not tables.part_is_empty(part):
            break
    return names


def reached_from(name, steps):
    """A dict with the names that are reached from a name by one step or more as its keys."""
    reached = {}
    waiting = list(steps[name])
    while waiting:
        other = waiting.pop()
        if other not in reached:
            reached[other] = True
            waiting.extend(steps[other])
    return reached


def empty_parts(language):
    """A fault for each part of a node and each base of operators whose rule can be empty."""
    tables = language.settled_tables()
    found = []
    for rule in language.rules:
        if rule[0] != "choice":
            found.extend([("can be empty", rule[1], place, (name,)) for place, sort, name in named_by(rule)
                          if sort == "rule" and tables.is_empty(name)])
    return found


def clashes_of(tables, rule):
    """The faults of a rule for the places at which a kind is possible in two ways."""
    if rule[0] == "node":
        places = [part_clashes(tables, rule, place) for place in range(len(rule[2]))]
    elif rule[0] == "choice":
        places = alternative_clashes(tables, rule)
    else:
        places = [operator_clashes(tables, rule)]
    return [("clash", rule[1], place, tables.ordered(kinds)) for place, kinds in enumerate(places) if kinds]


def part_clashes(tables, node, place):
    """The kinds that are possible in two ways at a part of a node."""
    part = node[2][place]
    if part[0] not in ("maybe", "many"):
        return []
    kinds = tables.part_firsts(part)
    if part[0] == "many" and part[3] is not None:
        kinds.append(("word", part[3]))
    behind = tables.behind_part(node, place)
    return [kind for kind in kinds if kind in behind]


def alternative_clashes(tables, choice):
    """For each alternative of a choice the kinds with which an earlier one can begin, too."""
    places = []
    earlier = []
    for name in choice[2]:
        kinds = list(tables.firsts(name))
        if tables.is_empty(name):
            kinds.extend(tables.behind(choice[1]))
        places.append([kind for kind in kinds if kind in earlier])
        earlier.extend(kinds)
    return places


def operator_clashes(tables, rule):
    """The kinds that are possible in two ways at an operators rule."""
    opening = opening_kinds(rule)
    joining = joining_kinds(rule)
    kinds = [kind for kind in opening if opening.count(kind) > 1 or tables.begins(rule[2], kind)]
    behind = tables.behind(rule[1])
    kinds.extend([kind for kind in joining if joining.count(kind) > 1 or kind in behind])
    return kinds
