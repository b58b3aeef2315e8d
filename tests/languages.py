"""Languages that several tests use."""

import copy

from tongues.languages import Language

TOKENS = [("word", "[a-z]+"), ("number", "[0-9]+"), ("blank", "[ \n]+", None, None, True)]

# The sections of the document's example.
LETS = {
    "tokens": TOKENS,
    "rules": [
        ("node", "file", [("many", "item", "items")]), ("choice", "item", ["let", "show"]),
        ("node", "let", [("word", "let"), ("token", "word", "name"), ("word", "="), ("child", "sum", "value"),
                         ("word", ";")]),
        ("node", "show", [("word", "show"), ("child", "sum", "value"), ("word", ";")]),
        ("operators", "sum", "atom", [("left", [("+", "plus")]), ("prefix", [("-", "minus")])], ("(", ")")),
        ("choice", "atom", ["name", "number"]), ("node", "name", [("token", "word", "name")]),
        ("node", "number", [("token", "number", "digits")])],
    "start": "file"}

# Every way of operators, some in several levels, without and with brackets, and lists with words between.
CALCULUS = {
    "tokens": TOKENS,
    "rules": [
        ("node", "file", [("child", "formula", "first"), ("many", "rest", "rest")]),
        ("node", "rest", [("word", ","), ("child", "formula", "formula")]),
        ("operators", "formula", "atom", [
            ("prefix", [("not", "negation")]), ("right", [("->", "implies"), ("=>", "implied")]),
            ("left", [("|", "either"), ("&", "both")]), ("none", [("=", "same"), ("<", "less")]),
            ("left", [("+", "plus"), ("-", "minus")]), ("prefix", [("~", "negative")]),
            ("postfix", [("!", "factorial"), ("?", "asked")]), ("right", [("^", "power")])], ("(", ")")),
        ("choice", "atom", ["call", "number", "list"]),
        ("node", "number", [("token", "number", "digits")]),
        ("node", "call", [("token", "word", "name"), ("maybe", "arguments", "arguments")]),
        ("node", "arguments", [("word", "["), ("many", "formula", "each", ";"), ("word", "]")]),
        ("node", "list", [("word", "{"), ("many", "entry", "entries", "."), ("maybe", "tail", "tail"),
                          ("word", "}")]),
        ("node", "entry", [("token", "word", "key"), ("word", ":"), ("child", "bare", "value")]),
        ("operators", "bare", "plain", [("postfix", [("#", "hash")]), ("left", [("*", "times")])]),
        ("node", "plain", [("token", "number", "digits")]),
        ("node", "tail", [("word", "@"), ("token", "word", "name")])],
    "start": "file"}

# A start that can be empty, by a choice; a node that is entered without a token.
OPTIONS = {
    "tokens": TOKENS,
    "rules": [
        ("choice", "begin", ["number", "body"]),
        ("node", "number", [("token", "number", "digits")]),
        ("node", "body", [("maybe", "head", "head"), ("many", "line", "lines"), ("maybe", "foot", "foot")]),
        ("node", "head", [("word", "head"), ("token", "word", "title")]),
        ("node", "line", [("token", "word", "name"), ("word", ":"), ("many", "digit", "digits", ",")]),
        ("node", "digit", [("word", "+"), ("token", "number", "digits")]),
        ("node", "foot", [("word", "foot"), ("maybe", "mark", "mark")]),
        ("node", "mark", [("word", "!")])],
    "start": "begin"}


def sections_of(rules, start, tokens=tuple(TOKENS), **more):
    return {"tokens": list(tokens), "rules": rules, "start": start, **more}


def language_of(rules, start, **more):
    return Language(sections_of(rules, start, **more))


def example(sections):
    return Language(copy.deepcopy(sections))
