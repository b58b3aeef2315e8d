"""Inlining definitions and extracting them ([K11] to [K18])."""

from tongues.candidates import Differs, Refused, checked_candidate, copied_tokens
from tongues.extracting import alike_rows, chosen_expression, has_as_token, list_around, many_ahead
from tongues.importing import take_out
from tongues.imports import definition_rows, written_node
from tongues.subtrees import is_sound, nodes_on, rows_within


def inline(project, file, place):
    """The changes that put what a name stands for in place of its uses, as a dict from files."""
    candidate = checked_candidate(project)
    names = candidate.old_names
    declared, row = meant_declaration(names, file, place)
    one = names.of_file(declared).occurrence(row)
    body = body_of(project, declared, row)
    if body is None:
        raise Refused("definition", declared, one.start)
    if not is_sound(project.tree(declared), one.node):
        raise Refused("errors", declared, one.start)
    uses = uses_of(names, (declared, row))
    for other, use in uses:
        if other == declared and use.row in rows_within(project.tree(declared), body):
            raise Refused("itself", other, use.start)
    for other, use in reversed([pair for pair in uses if pair[1].role != "lists"]):
        if project.language_name(other) != project.language_name(declared):
            raise Refused("replaced", other, use.start)
        replace_use(candidate, (other, use.start, use.stop), declared, body)
    for other, use in reversed([pair for pair in uses if pair[1].role == "lists"]):
        places = candidate.places_of((other, use.start, use.stop))
        if not places or not take_out(candidate, places[0]):
            raise Refused("taken", other, use.start)
    if not take_out_definition(candidate, (declared, one.start, one.stop)):
        raise Refused("taken", declared, one.start)
    return candidate.finished()


def meant_declaration(names, file, place):
    """The (file, row) of the one declaration to which the occurrence at a position leads."""
    row = names.of_file(file).row_at(place)
    if row is None:
        raise Refused("occurrence", file, place)
    leads = names.row_leads(file, row)
    if not leads:
        raise Refused("nothing", file, place)
    if len(leads) > 1:
        raise Refused("several", file, place)
    return leads[0]


def body_of(project, file, row):
    """The row of the body of the definition whose name is the token in a row, None if it is no such name."""
    tree = project.tree(file)
    node, field = tree[row][0], tree[row][1]
    for definition in definition_rows(project.language(file)):
        if (definition.node, definition.name_field) == (tree[node][3], field):
            there = [inner for inner in rows_within(tree, node) if tree[inner][:2] == (node, definition.body_field)]
            if len(there) == 1 and tree[there[0]][2] == "node":
                return there[0]
    return None


def uses_of(names, meant):
    """The list of all other occurrences that lead to a declaration, with their files."""
    found = []
    for file, one in names.occurrences():
        leads = names.row_leads(file, one.row)
        if meant in leads:
            if len(leads) > 1:
                raise Refused("shared", file, one.start)
            if (file, one.row) != meant:
                found.append((file, one))
    return found


def replace_use(candidate, use, declared, body):
    """Replaces a use, which is told as an old token, by the body of the definition."""
    start, stop = candidate.old.tree(declared)[body][4:]
    text = candidate.old.text(declared)[start:stop]
    copied = copied_tokens(candidate.old, declared, start, stop)
    for file, begin, end in candidate.places_of(use):
        for row in nodes_on(candidate.present().tree(file), begin, end):
            if candidate.try_replacing(file, row, text, copied):
                return
    raise Refused("replaced", use[0], use[1])


def take_out_definition(candidate, declaration):
    """Takes out the definition whose name is an old token; False if it cannot be done."""
    for file, start, _ in candidate.places_of(declaration):
        tree = candidate.present().tree(file)
        one = candidate.names().of_file(file).starting_at(start)
        rows = [] if one is None else nodes_on(tree, tree[one.node][4], tree[one.node][5])
        for row in rows:
            if candidate.try_removing(file, row):
                return True
    return False


def extract(project, file, start, stop, name, *, every=False, blank=""):
    """The changes that give an expression a name, defined ahead of where it stands, as a dict from files."""
    candidate = checked_candidate(project)
    chosen = chosen_expression(project, file, start, stop)
    if chosen is None:
        raise Refused("expression", file, start)
    definition, expression = chosen
    language, tree = project.language(file), project.tree(file)
    if not has_as_token(language, definition, name):
        raise Refused("name", file, tree[expression][4])
    place = list_around(language, tree, expression, definition.node)
    if place is None:
        raise Refused("list", file, tree[expression][4])
    rows = alike_rows(candidate, file, expression, place[0]) if every else [expression]
    for row in reversed(rows):
        if not candidate.try_replacing(file, row, name, ()):
            raise Refused("put", file, tree[row][4])
    goal = place + (many_ahead(language, tree, place, rows),)
    defined = put_definition(candidate, (file, expression), definition, name, goal, blank)
    changes = candidate.finished()
    check_new_names(candidate, (file, defined, defined + len(name)), name, len(rows) + 1)
    return changes


def put_definition(candidate, expression, definition, name, goal, blank):
    """Puts the definition of an expression, told by (file, row), into a list; the position of its name then."""
    file, row = expression
    start, stop = candidate.old.tree(file)[row][4:]
    text = candidate.old.text(file)[start:stop]
    rule = candidate.old.language(file).rule(definition.node)
    written = written_node(rule, {definition.name_field: name, definition.body_field: text})
    if written is None:
        raise Refused("parts", None, None)
    shift = written[1][definition.body_field]
    copied = [(shift + place, token) for place, token in copied_tokens(candidate.old, file, start, stop)]
    at = candidate.try_inserting(file, goal, written[0], copied, blank)
    if at is None:
        raise Refused("definition", None, None)
    return at + written[1][definition.name_field]


def check_new_names(candidate, defined, name, many):
    """Checks the occurrences that come from no old token: names of the definition, whose own is the token defined."""
    known = {new: True for _, new in candidate.carried()}
    names = candidate.names()
    found = [((file, one.start, one.stop), one) for file, one in names.occurrences()
             if (file, one.start, one.stop) not in known]
    declaring = [token for token, one in found if one.role == "declares"]
    if len(found) != many or declaring != [defined] or not all([one.name == name for _, one in found]):
        raise Refused("put", None, None)
    for token, _ in found:
        if names.leads_of(token) != (defined,):
            raise Differs(token, (defined,), names.leads_of(token))
