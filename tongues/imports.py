"""What a language says about imports and definitions, and how their nodes are written ([K1] to [K3])."""

from tongues.errors import TongueError
from tongues.fields import fields_of_nodes

MOST_ROWS = 12
WHOLE_LENGTH = 4
LISTING_LENGTH = 7
DEFINITION_LENGTH = 4
QUOTES = ("\"", "'", "`")


class BadImport(TongueError):
    """A language says something wrong about imports: the number of a row, or None, and what is wrong."""

    def __init__(self, number, reason):
        self.number = number
        self.reason = reason


class BadDefinition(TongueError):
    """A language says something wrong about definitions: the number of a row, or None, and what is wrong."""

    def __init__(self, number, reason):
        self.number = number
        self.reason = reason


def check_imports(language):
    """Raises BadImport or BadDefinition for the first thing that is wrong with the sections."""
    fields = fields_of_nodes(language)
    if len(language.imports) > MOST_ROWS:
        raise BadImport(None, "imports")
    for number, row in enumerate(language.imports):
        reason = import_reason(language, fields, row)
        if reason is not None:
            raise BadImport(number, reason)
    if len(language.definitions) > MOST_ROWS:
        raise BadDefinition(None, "definitions")
    for number, row in enumerate(language.definitions):
        reason = definition_reason(language, fields, row)
        if reason is not None:
            raise BadDefinition(number, reason)


def import_reason(language, fields, row):
    """What is wrong with a row of imports first, None if nothing is."""
    if len(row) not in (WHOLE_LENGTH, LISTING_LENGTH):
        return "length"
    if row[0] != "import":
        return "word"
    if not is_node_rule(language, row[1]):
        return "node"
    if not is_field(fields, row[1], row[2], "token"):
        return "field"
    flags = bringing_flags(language, row[1], row[2])
    if flags is None or ("whole" in flags) != (len(row) == WHOLE_LENGTH):
        return "brings"
    if not is_node_rule(language, language.start) or not is_field(fields, language.start, row[3], "many"):
        return "list"
    return items_reason(language, fields, row) if len(row) == LISTING_LENGTH else None


def items_reason(language, fields, row):
    """What is wrong first with what a row of imports says about its items."""
    _, node, _, _, items, item, name = row
    if not is_field(fields, node, items, "many"):
        return "items"
    if not is_node_rule(language, item):
        return "item"
    if not is_field(fields, item, name, "token"):
        return "name"
    return None if named_space(language, "lists", item, name) is not None else "lists"


def definition_reason(language, fields, row):
    """What is wrong with a row of definitions first, None if nothing is."""
    if len(row) != DEFINITION_LENGTH:
        return "length"
    _, node, name, body = row
    if row[0] != "definition":
        return "word"
    if not is_node_rule(language, node):
        return "node"
    if not is_field(fields, node, name, "token"):
        return "name"
    if named_space(language, "declares", node, name) is None:
        return "declares"
    return None if is_field(fields, node, body, "one") else "body"


def is_node_rule(language, name):
    """True for the name of a node rule."""
    rule = language.rule(name)
    return rule is not None and rule[0] == "node"


def is_field(fields, node, field, sort):
    """True if a node has a field of a sort."""
    return fields[node].get(field, ("", ""))[0] == sort


def bringing_flags(language, node, field):
    """The flags of the fact by which a field of a node brings a file, None if there is no such fact."""
    for fact in language.names:
        if fact[:3] == ("brings", node, field):
            return fact[3:]
    return None


def named_space(language, word, node, field):
    """The space of the fact with a word about a field of a node, None if there is no such fact."""
    for fact in language.names:
        if fact[:3] == (word, node, field):
            return fact[3]
    return None


class ImportRow:
    """A row of imports: its node, the field of the file's name, and the list field of the outermost node.

    With a list also the list field for the items, their node and the field of their names, otherwise None.
    """

    def __init__(self, row):
        self.node = row[1]
        self.file_field = row[2]
        self.outer_field = row[3]
        self.has_list = len(row) == LISTING_LENGTH
        self.list_field = row[4] if self.has_list else None
        self.item = row[5] if self.has_list else None
        self.name_field = row[6] if self.has_list else None


class DefinitionRow:
    """A row of definitions: its node, the field of the name, and the field of what the name stands for."""

    def __init__(self, row):
        self.node = row[1]
        self.name_field = row[2]
        self.body_field = row[3]


def import_rows(language):
    """The list of the rows of imports of a language."""
    return [ImportRow(row) for row in language.imports]


def definition_rows(language):
    """The list of the rows of definitions of a language."""
    return [DefinitionRow(row) for row in language.definitions]


def written_node(rule, texts):
    """A node of a node rule as it is written, and a dict from its fields to where their texts begin in it.

    `texts` is a dict from fields to texts. None if the node cannot be written.
    """
    written = []
    places = {}
    at = 0
    for part in rule[2]:
        text = part[1] if part[0] == "word" else texts.get(part[2])
        if text is None and part[0] in ("token", "child"):
            return None
        if text is not None:
            if part[0] != "word":
                places[part[2]] = at
            written.append(text)
            at += len(text) + 1
    return (" ".join(written), places)


def file_texts(language, node, field, file):
    """The list of the texts by which a field of a node can name a file that it brings, in order."""
    if "quoted" in bringing_flags(language, node, field):
        return [quote + file + quote for quote in QUOTES]
    return [file]
