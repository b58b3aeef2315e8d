"""A language with imports of every sort and with definitions, for the tests; it has no faults."""

from tongues.languages import Language

TOKENS = [("word", "[a-z]+"), ("quote", "\"[a-z]*\"|'[a-z]*'|`[a-z]*`"), ("number", "[0-9]+"),
          ("blank", "[ \n]+", None, None, True)]
RULES = [
    ("node", "file", [("many", "bringer", "bringers"), ("many", "item", "items"), ("maybe", "coda", "coda")]),
    ("choice", "bringer", ["use", "from", "hand"]),
    ("node", "use", [("word", "use"), ("token", "quote", "file"), ("word", ";")]),
    ("node", "from", [("word", "from"), ("token", "word", "file"), ("word", "take"), ("many", "pick", "picks", ","),
                      ("word", ";")]),
    ("node", "hand", [("word", "hand"), ("token", "quote", "file"), ("word", "take"), ("many", "pick", "picks", ","),
                      ("word", ";")]),
    ("choice", "pick", ["plain", "other", "unit"]),
    ("node", "plain", [("token", "word", "name")]),
    ("node", "other", [("word", "ren"), ("token", "word", "name"), ("word", "as"), ("token", "word", "alias")]),
    ("node", "unit", [("word", "unit"), ("token", "word", "name")]),
    ("choice", "item", ["def", "var", "late", "show", "group", "measure"]),
    ("node", "def", [("word", "def"), ("token", "word", "name"), ("word", "="), ("child", "sum", "body"),
                     ("maybe", "note", "note"), ("word", ";")]),
    ("node", "var", [("word", "var"), ("token", "word", "name"), ("word", "="), ("child", "sum", "body"),
                     ("word", ";")]),
    ("node", "late", [("word", "late"), ("token", "word", "name"), ("word", "="), ("child", "sum", "body"),
                      ("word", ";")]),
    ("node", "note", [("word", "note"), ("token", "word", "text")]),
    ("node", "show", [("word", "show"), ("child", "sum", "value"), ("word", ";")]),
    ("node", "group", [("word", "{"), ("many", "item", "items"), ("word", "}")]),
    ("node", "measure", [("word", "measure"), ("token", "word", "name"), ("word", ";")]),
    ("node", "coda", [("word", "end"), ("token", "word", "name")]),
    ("operators", "sum", "atom", [("left", [("+", "plus"), ("-", "less")]), ("left", [("*", "times")]),
                                  ("prefix", [("~", "minus")])], ("(", ")")),
    ("choice", "atom", ["name", "number", "call", "dot", "in"]),
    ("node", "name", [("token", "word", "name")]),
    ("node", "number", [("token", "number", "digits")]),
    ("node", "call", [("word", "call"), ("token", "word", "name"), ("word", "["), ("many", "sum", "values", ","),
                      ("word", "]")]),
    ("node", "dot", [("word", "."), ("token", "word", "name"), ("word", "of"), ("child", "atom", "of")]),
    ("node", "in", [("word", "in"), ("token", "word", "unit")])]
NAMES = [
    ("opens", "group"), ("declares", "def", "name", "values", "gives"), ("declares", "var", "name", "values"),
    ("declares", "late", "name", "values", "behind", "gives"), ("declares", "measure", "name", "units", "gives"),
    ("declares", "coda", "name", "values", "gives"),
    ("refers", "name", "name", "values"), ("refers", "call", "name", "values"),
    ("refers", "dot", "name", "values", "of"), ("refers", "in", "unit", "units"),
    ("brings", "use", "file", "quoted", "whole"), ("brings", "from", "file"), ("brings", "hand", "file", "quoted", "gives"),
    ("lists", "plain", "name", "values"), ("lists", "other", "name", "values"),
    ("declares", "other", "alias", "values", "gives"), ("lists", "unit", "name", "units")]
IMPORTS = [
    ("import", "from", "file", "bringers", "picks", "plain", "name"),
    ("import", "from", "file", "bringers", "picks", "other", "name"),
    ("import", "hand", "file", "bringers", "picks", "unit", "name"),
    ("import", "hand", "file", "bringers", "picks", "plain", "name"),
    ("import", "use", "file", "bringers")]
DEFINITIONS = [("definition", "def", "name", "body"), ("definition", "late", "name", "body"),
               ("definition", "var", "name", "body")]
SECTIONS = {"tokens": TOKENS, "rules": RULES, "start": "file", "spaces": ["values", "units"], "names": NAMES,
            "imports": IMPORTS, "definitions": DEFINITIONS}


def modules(**more):
    """The language, some of its sections others."""
    return Language({**SECTIONS, **more})
