"""Moving a declaration to another file ([K7] to [K10])."""

from tongues.candidates import Refused, checked_candidate, copied_tokens
from tongues.importing import listed_items, name_items, outermost_node, put_in, take_out
from tongues.listings import Listing, list_part
from tongues.projects import NoFile


def move(project, file, place, target, index, *, blank=""):
    """The changes that move the element in which something is declared to another file, as a dict from files."""
    candidate = checked_candidate(project)
    declaration = declaration_at(candidate, file, place)
    if target not in project.file_names():
        raise NoFile(target)
    element = list_element(project, file, declaration.row)
    if element is None:
        raise Refused("list", file, place)
    if target == file:
        raise Refused("target", None, None)
    if project.language_name(target) != project.language_name(file):
        raise Refused("language", None, None)
    field = project.tree(file)[element][1]
    if not 0 <= index <= many_elements(project, target, field):
        raise Refused("index", None, None)
    move_element(candidate, file, element, (target, field, index), blank)
    for need in needs_of(candidate):
        fulfil(candidate, need, blank)
    places = candidate.places_of((file, declaration.start, declaration.stop))
    if target not in [token[0] for token in places]:
        raise Refused("put", None, None)
    return candidate.finished()


def declaration_at(candidate, file, place):
    """The declaration at a position, which is declared in the scope of the file. Raises NoFile and Refused."""
    names = candidate.old_names.of_file(file)
    row = names.row_at(place)
    if row is None or names.occurrence(row).role != "declares":
        raise Refused("declaration", file, place)
    if names.occurrence(row).scope != 0:
        raise Refused("scope", file, place)
    return names.occurrence(row)


def list_element(project, file, row):
    """The row of the element of a list of the outermost node in which a token stands, None if there is none."""
    tree = project.tree(file)
    while tree[tree[row][0]][0] is not None:
        row = tree[row][0]
    part = list_part(project.language(file), tree, tree[row][0], tree[row][1])
    return None if part is None else row


def many_elements(project, file, field):
    """The number of the elements of a list of the outermost node of a file, 0 if there is no such list."""
    language, tree = project.language(file), project.tree(file)
    outer = outermost_node(tree)
    part = None if outer is None else list_part(language, tree, outer, field)
    return 0 if part is None else len(Listing(language, tree, outer, part).nodes)


def move_element(candidate, file, element, goal, blank):
    """Takes an element out of a file and puts it at its goal, told by (file, field, index)."""
    target, field, index = goal
    start, stop = candidate.old.tree(file)[element][4:]
    if not candidate.try_removing(file, element):
        raise Refused("taken", file, start)
    outer = outermost_node(candidate.present().tree(target))
    text = candidate.old.text(file)[start:stop]
    copied = copied_tokens(candidate.old, file, start, stop)
    if outer is None or candidate.try_inserting(target, (outer, field, index), text, copied, blank) is None:
        raise Refused("put", None, None)


class Need:
    """An occurrence that needs something: its old token, its new one, and the file to which its declaration went."""

    def __init__(self, old, new, source, is_listed):
        self.old = old
        self.new = new
        self.source = source
        self.is_listed = is_listed


def needs_of(candidate):
    """The list of the occurrences that need something, listed names first, in order."""
    found = []
    for old, new, led, _ in candidate.differing():
        places = candidate.places_of(led[0]) if len(led) == 1 and is_given_out(candidate, led[0]) else []
        one = candidate.names().of_file(new[0]).starting_at(new[1])
        if places:
            source = places[0][0]
            if one.role == "lists" or (one.role == "refers" and not one.rest and new[0] != source):
                found.append(Need(old, new, source, one.role == "lists"))
    return [need for need in found if need.is_listed] + [need for need in found if not need.is_listed]


def is_given_out(candidate, declaration):
    """True if an old declaration was declared in the scope of its file and given out."""
    one = candidate.old_names.of_file(declaration[0]).starting_at(declaration[1])
    return one.scope == 0 and "gives" in one.rest


def fulfil(candidate, need, blank):
    """Puts in what an occurrence needs, if it still differs."""
    places = [new for old, new, _, _ in candidate.differing() if old == need.old]
    if places:
        file = places[0][0]
        one = candidate.names().of_file(file).starting_at(places[0][1])
        if need.is_listed:
            is_done = bring_item(candidate, need, places[0], blank)
        else:
            items = name_items(candidate.present().language(file), one.space, one.name)
            is_done = put_in(candidate, file, need.source, items, blank)
        if not is_done:
            raise Refused("import", need.old[0], need.old[1])


def bring_item(candidate, need, token, blank):
    """Takes out the item of a listed name and puts it in again for its new file; False if it cannot be done."""
    present, old = candidate.present(), candidate.old
    file = token[0]
    node = present.tree(file)[candidate.names().of_file(file).starting_at(token[1]).node][3]
    if not take_out(candidate, token):
        return False
    if file == need.source:
        return True
    old_node = candidate.old_names.of_file(need.old[0]).starting_at(need.old[1]).node
    start, stop = old.tree(need.old[0])[old_node][4:]
    items = listed_items(present.language(file), node, old.text(need.old[0])[start:stop],
                         copied_tokens(old, need.old[0], start, stop))
    return put_in(candidate, file, need.source, items, blank)
