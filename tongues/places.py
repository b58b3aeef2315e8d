"""The places at which nodes stand, and what fits them ([F2], [F3])."""

# How many levels behind that of the operator the operand in a field stands.
LEVELS_BEHIND = {
    ("left", "left"): 0, ("left", "right"): 1, ("right", "left"): 1, ("right", "right"): 0,
    ("none", "left"): 1, ("none", "right"): 1, ("prefix", "operand"): 0, ("postfix", "operand"): 0}


def place_of(language, tree, row):
    """The rule and the level at which the node in a row stands."""
    around, field = tree[row][0], tree[row][1]
    if around is None:
        return (language.start, 1)
    name = tree[around][3]
    rule = language.rule(name)
    if rule is None:
        return operand_place(language, name, field)
    if rule[0] == "operators":
        return (name, 1)
    return (field_part(rule, field)[1], 1)


def field_part(node, field):
    """The part of a node rule with a field, None if there is none."""
    for part in node[2]:
        if part[0] != "word" and part[2] == field:
            return part
    return None


def operand_place(language, name, field):
    """The rule and the level of an operand in a field of an operator's node."""
    rule, level, way = operator_of(language, name)
    return (rule, level + LEVELS_BEHIND[way, field])


def operator_of(language, name):
    """The rule, the level (from 1 on) and the way of the operator that makes nodes of a name; None if none does."""
    for rule in language.rules:
        if rule[0] == "operators":
            for number, (way, pairs) in enumerate(rule[3]):
                if name in [node for _, node in pairs]:
                    return (rule[1], number + 1, way)
    return None


def fits(language, place, name):
    """True if a node of this name fits a place."""
    rule = language.rule(place[0])
    if rule[0] == "node":
        return name == rule[1]
    if rule[0] == "choice":
        return any([fits(language, (other, 1), name) for other in rule[2]])
    if rule[4] is not None and name == rule[1]:
        return True
    later = [node for _, pairs in rule[3][place[1] - 1:] for _, node in pairs]
    return name in later or fits(language, (rule[2], 1), name)
