"""A language with every sort of fact about names, for the tests."""

from tongues.languages import Language

TOKENS = [("word", "[a-z]+"), ("quote", "'[a-z]*'"), ("number", "[0-9]+"), ("blank", "[ \n]+", None, None, True)]
RULES = [
    ("node", "file", [("many", "item", "items")]),
    ("choice", "item", ["let", "var", "own", "fun", "loop", "block", "box", "show", "bringer"]),
    ("choice", "bringer", ["pull", "push", "take", "hand", "lone"]),
    # let: seen behind its end; var: from everywhere; own: from its own name on
    ("node", "let", [("word", "let"), ("token", "word", "name"), ("word", "="), ("child", "sum", "value"), ("word", ";")]),
    ("node", "var", [("word", "var"), ("token", "word", "name"), ("word", ";")]),
    ("node", "own", [("word", "own"), ("token", "word", "name"), ("word", "="), ("child", "sum", "value"), ("word", ";")]),
    # fun: a scope, its name and its default lie outside
    ("node", "fun", [("word", "fun"), ("token", "word", "name"), ("maybe", "default", "default"),
                     ("many", "param", "params", ","), ("word", "{"), ("many", "item", "items"), ("word", "}")]),
    ("node", "default", [("word", ":"), ("child", "sum", "value")]),
    ("node", "param", [("word", "#"), ("token", "word", "name")]),
    # loop: its name is declared inside of it, its end lies outside
    ("node", "loop", [("word", "loop"), ("token", "word", "name"), ("word", "to"), ("child", "sum", "end"), ("word", "{"),
                      ("many", "item", "items"), ("word", "}")]),
    ("node", "block", [("word", "{"), ("many", "item", "items"), ("word", "}")]),
    # box: a declaration in another space, whose node is a scope
    ("node", "box", [("word", "box"), ("token", "word", "name"), ("word", "{"), ("many", "item", "items"), ("word", "}")]),
    ("node", "show", [("word", "show"), ("child", "sum", "value"), ("word", ";")]),
    ("node", "pull", [("word", "pull"), ("token", "quote", "file"), ("word", ";")]),
    ("node", "push", [("word", "push"), ("token", "quote", "file"), ("word", ";")]),
    ("node", "take", [("word", "take"), ("token", "word", "file"), ("word", ":"), ("many", "entry", "entries", ","),
                      ("word", ";")]),
    ("node", "hand", [("word", "hand"), ("token", "word", "file"), ("word", ":"), ("many", "entry", "entries", ","),
                      ("word", ";")]),
    ("node", "lone", [("word", "lone"), ("child", "entry", "entry"), ("word", ";")]),
    ("choice", "entry", ["name", "boxname", "renamed"]),
    ("node", "name", [("token", "word", "name")]),
    ("node", "boxname", [("word", "box"), ("token", "word", "name")]),
    ("node", "renamed", [("word", "ren"), ("token", "word", "name"), ("word", "as"), ("token", "word", "alias")]),
    ("operators", "sum", "inner", [("left", [("+", "plus")])], ("(", ")")),
    ("operators", "inner", "atom", [("prefix", [("~", "tilde")])], ("[", "]")),
    ("choice", "atom", ["use", "dot", "in", "number"]),
    ("node", "use", [("token", "word", "name")]),
    ("node", "dot", [("word", "."), ("token", "word", "name"), ("word", "of"), ("child", "inner", "of")]),
    ("node", "in", [("word", "in"), ("token", "word", "box")]),
    ("node", "number", [("token", "number", "digits")])]
FACTS = [
    ("opens", "fun", "name", "default"), ("opens", "loop", "end"), ("opens", "block"), ("opens", "box", "name"),
    ("declares", "let", "name", "values", "behind", "gives"), ("declares", "var", "name", "values", "gives"),
    ("declares", "own", "name", "values", "own"), ("declares", "fun", "name", "values", "gives"),
    ("declares", "param", "name", "values"), ("declares", "loop", "name", "values", "inside", "gives"),
    ("declares", "box", "name", "boxes", "gives"),
    ("refers", "use", "name", "values"), ("refers", "in", "box", "boxes"), ("refers", "dot", "name", "values", "of"),
    ("brings", "pull", "file", "quoted", "whole"), ("brings", "push", "file", "quoted", "whole", "gives"),
    ("brings", "take", "file"), ("brings", "hand", "file", "gives"),
    ("lists", "name", "name", "values"), ("lists", "boxname", "name", "boxes"), ("lists", "renamed", "name", "values"),
    ("declares", "renamed", "alias", "values", "gives")]
SECTIONS = {"tokens": TOKENS, "rules": RULES, "start": "file", "spaces": ["values", "boxes"], "names": FACTS}
# The same, but nothing is given out or handed on, and dots look for boxes.
PRIVATE = {**SECTIONS, "names": [tuple(word for word in fact if word != "gives") for fact in FACTS
                                 if fact[:2] != ("refers", "dot")] + [("refers", "dot", "name", "boxes", "of")]}


def naming(sections=None):
    return Language(sections or SECTIONS)
