"""Which expression is extracted, and where its definition goes ([K15] to [K17])."""

from tongues.carrying import parser_tokens
from tongues.imports import definition_rows
from tongues.listings import Listing, list_part
from tongues.places import field_part, fits, place_of
from tongues.subtrees import is_sound, nodes_on, rows_within


def chosen_expression(project, file, start, stop):
    """The row of definitions and the row of the node with exactly the tokens between two positions, or None."""
    language, tree = project.language(file), project.tree(file)
    between = [token for token in parser_tokens(project, file) if start <= token[1] and token[2] <= stop]
    if not between:
        return None
    rows = [row for row in nodes_on(tree, between[0][1], between[-1][2]) if is_sound(tree, row)]
    for definition in definition_rows(language):
        rule = field_part(language.rule(definition.node), definition.body_field)[1]
        for row in rows:
            if place_of(language, tree, row)[0] == rule:
                return (definition, row)
    return None


def has_as_token(language, definition, name):
    """True if a name can be read as one token of the token rule for the name of a definition."""
    kind = ("rule", field_part(language.rule(definition.node), definition.name_field)[1])
    if language.lexer.is_skipped(kind):
        return False
    first_tokens = [language.lexer.token(name, 0, mode)[0] for mode in language.modes]
    return any([token[0] == kind and token[2] == len(name) for token in first_tokens])


def list_around(language, tree, row, node):
    """The row and the field of the innermost list around a row that can have a node as an element, None if none can."""
    while tree[row][0] is not None:
        around, field = tree[row][0], tree[row][1]
        part = list_part(language, tree, around, field)
        if part is not None and fits(language, (part[1], 1), node):
            return (around, field)
        row = around
    return None


def alike_rows(candidate, file, expression, around):
    """The list of the rows of the nodes within a row that are alike to an expression, which is one of them."""
    project = candidate.old
    tree = project.tree(file)
    wanted = told_node(candidate, file, expression)
    found = []
    for row in rows_within(tree, around):
        is_inner = any([row in rows_within(tree, other) for other in found])
        if tree[row][2] == "node" and is_sound(tree, row) and not is_inner:
            if told_node(candidate, file, row) == wanted:
                found.append(row)
    return found


def told_node(candidate, file, row):
    """What alike nodes share: the name, the rule, and the texts of the tokens with what they lead to."""
    project = candidate.old
    language, tree = project.language(file), project.tree(file)
    _, _, _, name, start, stop = tree[row]
    told = []
    for token in parser_tokens(project, file):
        if start <= token[1] and token[2] <= stop:
            is_occurrence = candidate.old_names.of_file(file).starting_at(token[1]) is not None
            text = project.text(file)[token[1]:token[2]]
            told.append((text, is_occurrence, candidate.old_names.leads_of(token)))
    return (name, place_of(language, tree, row)[0], told)


def many_ahead(language, tree, place, rows):
    """How many elements of a list stand ahead of the first one in which one of some rows stands."""
    around, field = place
    listing = Listing(language, tree, around, list_part(language, tree, around, field))
    for number, element in enumerate(listing.nodes):
        if any([row in rows_within(tree, element) for row in rows]):
            return number
    return len(listing.nodes)
