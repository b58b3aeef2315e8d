"""A language with attributes of every way and sort, for the tests; it has no faults."""

TOKENS = [("word", "[a-z]+"), ("number", "[0-9]+"), ("blank", "[ \n]+", None, None, True)]
RULES = [
    ("node", "file", [("maybe", "head", "head"), ("many", "item", "items"), ("many", "mark", "marks", ",")]),
    ("node", "head", [("word", "head"), ("token", "word", "title")]),
    ("choice", "item", ["let", "show"]),
    ("node", "let", [("word", "let"), ("token", "word", "name"), ("word", "="), ("child", "sum", "value"), ("word", ";")]),
    ("node", "show", [("word", "show"), ("child", "sum", "value"), ("word", ";")]),
    ("operators", "sum", "atom", [("left", [("+", "plus")]), ("prefix", [("-", "minus")])], ("(", ")")),
    ("choice", "atom", ["use", "number"]), ("node", "use", [("token", "word", "name")]),
    ("node", "number", [("token", "number", "digits")]),
    ("node", "mark", [("word", "!"), ("token", "word", "name"), ("word", "at"), ("token", "word", "place"),
                      ("word", "by"), ("token", "word", "maker")])]
SPACES = ["values", "titles", "places"]
NAMES = [("declares", "let", "name", "values"), ("refers", "use", "name", "values"),
         ("declares", "head", "title", "titles"), ("declares", "mark", "name", "titles"),
         ("lists", "mark", "place", "values"), ("refers", "mark", "maker", "titles")]
ATTRIBUTES = [
    ("worth", "up", "integer", ["sum"]), ("good", "up", "boolean", ["sum", "item"]), ("shape", "up", "term", ["sum", "item"]),
    ("told", "up", "text", ["item", "mark"]), ("total", "up", "integer", ["file", "item"]),
    ("depth", "down", "integer", ["sum"], "0"), ("place", "down", "text", ["let", "mark"], '"top"'),
    ("flag", "down", "boolean", ["plus"], "true"), ("tree", "down", "term", ["file"], '(term "t")')]
EQUATIONS = [
    ("use", "worth", '(meant name total)'), ("number", "worth", "(else (parsed (spelling digits)) 0)"),
    ("plus", "worth", "(add (child left worth) (child right worth))"), ("minus", "worth", "(negative (child operand worth))"),
    ("use", "good", "true"), ("number", "good", "(less 0 (own worth))"),
    ("plus", "good", "(and (child left good) (or (child right good) (own flag)))"),
    ("minus", "good", "(not (child operand good))"),
    ("let", "good", "(child value good)"), ("show", "good", "(if (has value) (child value good) false)"),
    ("use", "shape", "(named (spelling name))"), ("number", "shape", '(term "number")'),
    ("plus", "shape", '(term "+" (child left shape) (child right shape))'),
    ("minus", "shape", '(with (term "-") (argument (child operand shape) 0))'),
    ("let", "shape", "(child value shape)"), ("show", "shape", "(child value shape)"),
    ("let", "told", "(append (spelling name) (own place))"), ("show", "told", "(label (own shape))"),
    ("mark", "told", '(if (same (own place) "top") (shown (size (term "a"))) (shown (length "a")))'),
    ("file", "total", "(add (sum items total) (multiply (count marks) (last items total 1)))"),
    ("let", "total", "(subtract (child value worth) 1)"),
    ("show", "total", "(quotient (child value worth) (remainder 7 2))"),
    ("let", "value", "depth", "1"), ("show", "value", "depth", "2"), ("plus", "left", "depth", "(add (own depth) 1)"),
    ("plus", "right", "depth", "(own depth)"), ("minus", "operand", "depth", "(own depth)"),
    ("file", "items", "place", '(before told (join items told ", "))'),
    ("file", "marks", "place", '(before told "first")'),
    ("let", "value", "flag", "false"), ("show", "value", "flag", "true"), ("plus", "left", "flag", "(own flag)"),
    ("plus", "right", "flag", "(own flag)"), ("minus", "operand", "flag", "(same 1 2)")]
CHECKS = [("file", "(and (all items good) (any items good))", '(label (collect items shape))'),
          ("let", "(less (own total) 10)", '"too much"')]


def attributing(**more):
    """The sections of the language, some of them others."""
    return {"tokens": TOKENS, "rules": RULES, "start": "file", "spaces": SPACES, "names": NAMES,
            "attributes": ATTRIBUTES, "equations": EQUATIONS, "checks": CHECKS, **more}
