"""A language whose attributes read in every way, also over several files, for the tests; it has no faults."""

from tongues.languages import Language

TOKENS = [("word", "[a-z]+"), ("number", "[0-9]+"), ("quote", "'[a-z]*'"), ("blank", "[ \n]+", None, None, True)]
RULES = [
    ("node", "file", [("many", "use", "uses"), ("many", "item", "items")]),
    ("node", "use", [("word", "use"), ("token", "quote", "file"), ("word", ";")]),
    ("choice", "item", ["let", "show", "block"]),
    ("node", "let", [("word", "let"), ("token", "word", "name"), ("maybe", "value", "value"), ("word", ";")]),
    ("node", "value", [("word", "="), ("child", "sum", "sum")]),
    ("node", "show", [("word", "show"), ("child", "sum", "value"), ("word", ";")]),
    ("node", "block", [("word", "{"), ("many", "item", "items"), ("word", "}")]),
    ("operators", "sum", "atom", [("left", [("+", "plus")]), ("prefix", [("-", "minus")])], ("(", ")")),
    ("choice", "atom", ["name", "number", "tally"]),
    ("node", "name", [("token", "word", "name")]),
    ("node", "number", [("token", "number", "digits")]),
    ("node", "tally", [("word", "["), ("many", "sum", "parts", ","), ("word", "]")])]
SPACES = ["values"]
NAMES = [("opens", "block"), ("declares", "let", "name", "values", "gives"), ("refers", "name", "name", "values"),
         ("brings", "use", "file", "quoted", "whole", "gives")]
ATTRIBUTES = [
    ("worth", "up", "integer", ["sum", "value"]), ("good", "up", "boolean", ["sum", "item"]),
    ("shape", "up", "term", ["sum", "item", "file"]), ("told", "up", "text", ["item", "file", "use"]),
    ("total", "up", "integer", ["item"]), ("ahead", "down", "integer", ["item"]),
    ("level", "down", "integer", ["sum", "item"]), ("base", "down", "integer", ["file"], "(add 3 4)"),
    ("bare", "down", "text", ["file"])]
EQUATIONS = [
    ("number", "worth", "(parsed (spelling digits))"), ("number", "good", "(less (own level) (own worth))"),
    ("number", "shape", "(named (spelling digits))"),
    ("name", "worth", "(meant name total)"), ("name", "good", "(else (meant name good) false)"),
    ("name", "shape", "(if (has name) (named (spelling name)) (term \"none\"))"),
    ("plus", "worth", "(add (child left worth) (child right worth))"),
    ("plus", "good", "(or (child left good) (child right good))"),
    ("plus", "shape", "(term \"plus\" (child left shape) (child right shape))"),
    ("minus", "worth", "(negative (child operand worth))"), ("minus", "good", "(not (child operand good))"),
    ("minus", "shape", "(with (term \"minus\") (child operand shape))"),
    ("tally", "worth", "(add (sum parts worth) (multiply (count parts) (last parts worth 10)))"),
    ("tally", "good", "(and (all parts good) (any parts good))"), ("tally", "shape", "(collect parts shape)"),
    ("value", "worth", "(child sum worth)"),
    ("let", "total", "(if (has value) (child value worth) 0)"), ("let", "good", "(same (own total) (own level))"),
    ("let", "shape", "(named (spelling name))"), ("let", "told", "(append (spelling name) (shown (own total)))"),
    ("show", "total", "(else (child value worth) (own ahead))"), ("show", "good", "(child value good)"),
    ("show", "shape", "(child value shape)"), ("show", "told", "(label (own shape))"),
    ("block", "total", "(last items total (own ahead))"), ("block", "good", "(any items good)"),
    ("block", "shape", "(collect items shape)"), ("block", "told", "(join items told \", \")"),
    ("use", "told", "(spelling file)"),
    ("file", "told", "(append (join uses told \"\") (join items told \"; \"))"), ("file", "shape", "(collect items shape)"),
    ("file", "items", "ahead", "(before total (own base))"), ("block", "items", "ahead", "(before total (own ahead))"),
    ("file", "items", "level", "0"), ("block", "items", "level", "(add (own level) 1)"),
    ("value", "sum", "level", "1"), ("show", "value", "level", "(own level)"),
    ("plus", "left", "level", "(add (own level) 1)"), ("plus", "right", "level", "(own level)"),
    ("minus", "operand", "level", "(own level)"), ("tally", "parts", "level", "(before worth (own level))")]
CHECKS = [("let", "(less (own total) 20)", "(append \"big \" (spelling name))"),
          ("let", "(less 0 (else (own total) 1))", "(shown (child value worth))"), ("show", "(own good)", "(own told)"),
          ("file", "(any items good)", "(own bare)"), ("plus", "(less (child left worth) 9)", "(shown (own worth))")]
SECTIONS = {"tokens": TOKENS, "rules": RULES, "start": "file", "spaces": SPACES, "names": NAMES,
            "attributes": ATTRIBUTES, "equations": EQUATIONS, "checks": CHECKS}


def evaluating(**more):
    """The language, some of its sections others."""
    return Language({**SECTIONS, **more})
