"""Writing back by the words of part F, in another way: trees as nested dicts, and all sets of gaps in order."""

import copy
import itertools

from tongues.parsing import Parser
from tongues.places import fits, place_of
from tongues.tokens import tokens
from tongues.trees import told_rows, tree_of

NODE_ERRORS = ("NoNode", "NoList", "NoElement", "NotWhole", "NoBrackets", "NotWritable")


class Wrong(Exception):
    """An error that the document names, and its rule."""


def nested(tree):
    """The outermost rows of a tree as dicts, with all rows in order."""
    rows = [{"row": number, "field": row[1], "sort": row[2], "name": row[3], "start": row[4], "stop": row[5],
             "around": row[0], "children": []} for number, row in enumerate(tree)]
    top = []
    for row in rows:
        (top if row["around"] is None else rows[row["around"]]["children"]).append(row)
    return top, rows


def plain(top):
    return [(row["field"], row["sort"], row["name"], plain(row["children"])) for row in top]


def word_row(word, field=None):
    return {"field": field, "sort": "token", "name": ("word", word), "children": []}


def used(language, text):
    return [token for token in tokens(language.lexer, text) if not language.lexer.is_skipped(token[0])]


def signs(text, taken):
    return [(kind, text[start:stop]) for kind, start, stop, _, _ in taken]


def whole(language, text, position, put, rule):
    """The signs and the node of a text that is whole for a rule; raises NotWhole."""
    lexer = language.lexer
    found = [token for token in tokens(lexer, text) if token[1] >= position]
    mode = lexer.modes[0]
    if found:
        mode = found[0][3]
    elif text:
        last = tokens(lexer, text)[-1]
        mode = lexer.token(text, last[1], last[3])[1]
    at, taken = 0, []
    while at < len(put):
        token, mode = lexer.token(put, at, mode)
        at = token[2]
        if not lexer.is_skipped(token[0]):
            taken.append(token)
    rows = told_rows(taken, Parser(language, taken).whole(rule))
    top, all_rows = nested(rows)
    if len(top) != 1 or top[0]["sort"] != "node" or {row["sort"] for row in all_rows} - {"node", "token"}:
        raise Wrong("NotWhole", rule)
    return signs(put, taken), top[0]


def write(language, text, start, stop, parts, wanted):
    """The put text and the number of gaps."""
    ahead = [token for token in used(language, text) if token[2] <= start]
    behind = [token for token in used(language, text) if token[1] >= stop]
    expected = signs(text, ahead) + [sign for _, part in parts for sign in part] + signs(text, behind)
    places = range(len(parts) + 1)
    for many in range(len(parts) + 2):
        for gaps in itertools.combinations(places, many):
            put = "".join((" " if place in gaps else "") + (parts[place][0] if place < len(parts) else "")
                          for place in places)
            new = text[:start] + put + text[stop:]
            taken = used(language, new)
            if signs(new, taken) != expected:
                continue
            for old, token in zip(ahead, taken):
                if token[1] != old[1]:
                    raise Wrong("NotWritable")
            for old, token in zip(reversed(behind), reversed(taken)):
                if len(new) - token[1] != len(text) - old[1]:
                    raise Wrong("NotWritable")
            if plain(nested(tree_of(language, new))[0]) != plain(wanted):
                raise Wrong("NotWritable")
            return ((start, stop, put),), many
    raise Wrong("NotWritable")


def siblings(top, rows, row):
    return top if row["around"] is None else rows[row["around"]]["children"]


def replace(language, text, number, expression):
    tree = tree_of(language, text)
    top, rows = nested(tree)
    row = rows[number]
    if row["sort"] != "node" or row["start"] == row["stop"]:
        raise Wrong("NoNode")
    rule, level = place_of(language, tree, number)
    part, node = whole(language, text, row["start"], expression, rule)
    parts, is_bracketed = [(expression, part)], False
    new = copy.deepcopy(node)
    if not fits(language, (rule, level), node["name"]):
        brackets = language.rule(rule)[4] if language.rule(rule)[0] == "operators" else None
        if brackets is None:
            raise Wrong("NoBrackets", rule)
        is_bracketed = True
        first, last = brackets
        parts = [(first, [(("word", first), first)])] + parts + [(last, [(("word", last), last)])]
        new["field"] = "inside"
        new = {"sort": "node", "name": rule, "children": [word_row(first), new, word_row(last)]}
    new["field"] = row["field"]
    around = siblings(top, rows, row)
    around[around.index(row)] = new
    return write(language, text, row["start"], row["stop"], parts, top) + (is_bracketed,)


def groups(language, node):
    """The children of a node rule's node, part by part."""
    rest, found = list(node["children"]), []
    for part in language.rule(node["name"])[2]:
        mine = []
        if part[0] == "word":
            while not mine or mine[-1]["sort"] == "skipped":
                mine.append(rest.pop(0))
        else:
            while rest and rest[0]["field"] == part[2]:
                mine.append(rest.pop(0))
        found.append((part, mine))
    assert not rest
    return found


def insert(language, text, number, field, index, element, blank):
    top, rows = nested(tree_of(language, text))
    node = rows[number]
    rule = language.rule(node["name"]) if node["sort"] == "node" else None
    if rule is None or rule[0] != "node" or not [part for part in rule[2] if part[0] == "many" and part[2] == field]:
        raise Wrong("NoList")
    parts = groups(language, node)
    at = [part[0] == "many" and part[2] == field for part, _ in parts].index(True)
    (_, name, _, word), mine = parts[at]
    there = [row for row in mine if row["sort"] == "node"]
    if index < 0 or index > len(there):
        raise Wrong("NoElement")
    f, s = sum(len(rows_here) for _, rows_here in parts[:at]), 1 if word is None else 2
    between = [] if word is None or not there else [word]
    pieces = [(word, [(("word", word), word)]) for word in between]
    if index < len(there):
        position, child = there[index]["start"], f + s * index
    elif there:
        position, child = there[-1]["stop"], f + len(mine)
    else:
        first = node["children"][f]["row"] if f < len(node["children"]) else None
        ahead = [row for row in rows[:first] if row["sort"] in ("token", "skipped")]
        if first is None:
            inner = [row for row in rows if row["row"] > number and not is_within(rows, row, node)]
            ahead = [row for row in rows[:inner[0]["row"] if inner else None] if row["sort"] in ("token", "skipped")]
        position, child = ahead[-1]["stop"] if ahead else 0, f
    part, new = whole(language, text, position, element, name)
    if not part:
        raise Wrong("NotWhole", name)
    new = dict(new, field=field)
    words = [word_row(word, field) for word in between]
    if index < len(there):
        written, rows_put = [(element, part)] + pieces + [(blank, [])], [new] + words
    elif there:
        written, rows_put = pieces + [(blank, []), (element, part)], words + [new]
    elif position:
        written, rows_put = [(blank, []), (element, part)], [new]
    else:
        written, rows_put = [(element, part), (blank, [])], [new]
    node["children"][child:child] = rows_put
    return write(language, text, position, position, written, top)


def is_within(rows, row, node):
    while row["around"] is not None:
        row = rows[row["around"]]
        if row is node:
            return True
    return False


def remove(language, text, number):
    top, rows = nested(tree_of(language, text))
    row = rows[number]
    if row["sort"] != "node" or row["start"] == row["stop"] or row["around"] is None:
        raise Wrong("NoElement")
    node = rows[row["around"]]
    rule = language.rule(node["name"])
    part = [part for part in rule[2] if part[0] == "many" and part[2] == row["field"]] if rule and rule[0] == "node" else []
    if not part:
        raise Wrong("NoElement")
    there = [one for one in node["children"] if one["field"] == row["field"] and one["sort"] == "node"
             and one["start"] < one["stop"]]
    place, child = there.index(row), node["children"].index(row)
    has_word = part[0][3] is not None
    if place + 1 < len(there):
        start, stop, gone = row["start"], there[place + 1]["start"], [child, child + 1]
    elif place > 0:
        start, stop, gone = there[place - 1]["stop"], row["stop"], [child - 1, child]
    else:
        start, stop, gone = row["start"], row["stop"], [child]
    if not has_word:
        gone = [child]
    node["children"] = [one for at, one in enumerate(node["children"]) if at not in gone]
    return write(language, text, start, stop, [], top)
