"""The nodes of a language, which are those of node rules and of operators, and their fields."""

OPERAND_FIELDS = {
    "left": ("left", "right"), "right": ("left", "right"), "none": ("left", "right"),
    "prefix": ("operand",), "postfix": ("operand",)}


def fields_of_nodes(language):
    """For each node, node rules first, a dict from its fields, in order, to pairs (sort, rule).

    The sort is "token", "one" or "many"; the rule of a token is its token rule.
    """
    found = {}
    for rule in language.rules:
        if rule[0] == "node":
            found[rule[1]] = {part[2]: (part_sort(part), part[1]) for part in rule[2] if part[0] != "word"}
    for rule in language.rules:
        if rule[0] == "operators":
            for way, pairs in rule[3]:
                for _, node in pairs:
                    found[node] = {field: ("one", rule[1]) for field in OPERAND_FIELDS[way]}
    return found


def part_sort(part):
    """The sort of the field of a part of a node."""
    return part[0] if part[0] in ("token", "many") else "one"


def is_brackets(language, name):
    """True if a node of this name is one in brackets, which has the name of its operators rule."""
    rule = language.rule(name)
    return rule is not None and rule[0] == "operators"
