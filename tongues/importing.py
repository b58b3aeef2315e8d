"""Taking out and putting in what imports list ([K9], [K10])."""

from tongues.imports import file_texts, import_rows, named_space, written_node
from tongues.listings import Listing, list_part


class Item:
    """An item that a row of imports can put in: its text, None if it cannot be written, and its copied tokens.

    A row without a list puts in an import of a whole file; its item has no text.
    """

    def __init__(self, row, text, copied):
        self.row = row
        self.text = text
        self.copied = copied


def outermost_node(tree):
    """The row of the outermost node of a tree, None if there is none."""
    for row, (around, _, sort, _, _, _) in enumerate(tree):
        if around is None and sort == "node":
            return row
    return None


def take_out(candidate, token):
    """Takes out the item of a listed name, or its import if that has nothing else; False if it cannot be done."""
    file = token[0]
    language, tree = candidate.present().language(file), candidate.present().tree(file)
    one = candidate.names().of_file(file).starting_at(token[1])
    around = None if one is None else tree[one.node][0]
    if around is None:
        return False
    described = (tree[around][3], tree[one.node][1], tree[one.node][3], tree[one.row][1])
    if described not in [(row.node, row.list_field, row.item, row.name_field) for row in import_rows(language)]:
        return False
    parts = [part for part in language.rule(tree[around][3])[2] if part[0] == "many"]
    many = sum([len(Listing(language, tree, around, part).nodes) for part in parts])
    return candidate.try_removing(file, around if many == 1 else one.node)


def listed_items(language, node, text, copied):
    """The list of the items with which the rows of imports put in the item of a listed name again."""
    return [Item(row, text, copied) for row in import_rows(language) if row.item == node]


def name_items(language, space, name):
    """The list of the items with which the rows of imports put in a name of a space."""
    found = []
    for row in import_rows(language):
        if not row.has_list:
            found.append(Item(row, None, ()))
        elif named_space(language, "lists", row.item, row.name_field) == space:
            written = written_node(language.rule(row.item), {row.name_field: name})
            found.append(Item(row, None if written is None else written[0], ()))
    return found


def put_in(candidate, file, source, items, blank):
    """Puts one of some items into a file for a source; False if it cannot be done."""
    return put_into_import(candidate, file, source, items) or put_new_import(candidate, file, source, items, blank)


def put_into_import(candidate, file, source, items):
    """Puts an item at the end of the first import of the source; False if it cannot be done."""
    language, tree = candidate.present().language(file), candidate.present().tree(file)
    for row, name in candidate.names().of_file(file).brought_files():
        fitting = [item for item in items if item.row.has_list and item.row.node == tree[row][3]]
        if name == source and fitting:
            item = fitting[0]
            if item.text is None:
                return False
            field = item.row.list_field
            index = len(Listing(language, tree, row, list_part(language, tree, row, field)).nodes)
            return candidate.try_inserting(file, (row, field, index), item.text, item.copied, "") is not None
    return False


def put_new_import(candidate, file, source, items, blank):
    """Puts a new import of the source with an item into a file; False if it cannot be done."""
    language = candidate.present().language(file)
    # There is an outermost node, as an occurrence stands in the file.
    outer = outermost_node(candidate.present().tree(file))
    for item in items:
        for text, copied in written_imports(language, item, source):
            if candidate.try_inserting(file, (outer, item.row.outer_field, 0), text, copied, blank) is not None:
                return True
    return False


def written_imports(language, item, source):
    """The list of the texts of an import of a source with an item, each with its copied tokens."""
    row = item.row
    if row.has_list and item.text is None:
        return []
    found = []
    for name in file_texts(language, row.node, row.file_field, source):
        texts = {row.file_field: name}
        if row.has_list:
            texts[row.list_field] = item.text
        written = written_node(language.rule(row.node), texts)
        if written is not None:
            shift = written[1][row.list_field] if row.has_list else 0
            found.append((written[0], [(shift + place, token) for place, token in item.copied]))
    return found
