"""Inlining definitions and extracting them ([K4] to [K6], [K11] to [K18])."""

import random
import unittest

from tongues.errors import TooDeep, TooLong
from tongues.facts import check_facts
from tongues.grammar import faults
from tongues.imports import check_imports
from tongues.inlining import extract, inline
from tongues.languages import Language
from tongues.projects import Project
from tongues.texts import apply_change
from tests.languages import TOKENS
from tests.modules import DEFINITIONS, IMPORTS, NAMES, RULES, modules
from tests.raising import raised, told
from tests.randomtexts import modules_files, modules_text
from tests.slowrefactoring import slow_told

MODULES = modules()


def with_rule(rule, *more, **sections):
    """The language with a further item."""
    items = [("choice", "item", [*one[2], rule[1]]) if one[1] == "item" else one for one in RULES]
    return modules(rules=items + [rule, *more], **sections)


class RefactoringTest(unittest.TestCase):
    language = MODULES

    def project(self, *texts):
        return Project({"a": self.language, "b": self.language},
                       {"mnop"[number]: text if isinstance(text, tuple) else ("a", text) for number, text in enumerate(texts)})

    def changed(self, project, changes):
        self.assertEqual(list(changes), sorted(changes))
        self.assertTrue(all(changes.values()))
        return [apply_change(project.text(file), changes.get(file, ())) for file in project.file_names()]

    def wrong(self, call, error, **expected):
        self.assertEqual(raised(call), (error, expected))


class InlineTest(RefactoringTest):
    def inlined(self, *texts, place=None, file="m"):
        project = self.project(*texts)
        return self.changed(project, inline(project, file, texts[0].index("a") if place is None else place))

    def refused(self, texts, place, reason, *told, file="m"):
        self.wrong(lambda: inline(self.project(*texts), file, place), "Refused", reason=reason, file=told[0], position=told[1])

    def differs(self, texts, place, occurrence, led, leads):
        self.wrong(lambda: inline(self.project(*texts), "m", place), "Differs", occurrence=occurrence, led=led, leads=leads)

    def test_wrong_languages_and_files(self):
        project = Project({"a": MODULES, "b": modules(imports=[()])}, {"m": ("a", "def c = 1;")})
        self.wrong(lambda: inline(project, "x", 0), "BadImport", number=0, reason="length")
        self.wrong(lambda: extract(project, "x", 0, 0, "q"), "BadImport", number=0, reason="length")
        project = Project({"a": MODULES, "b": modules(definitions=[("definition", "x", "y", "z")])}, {"m": ("a", "def c = 1;")})
        self.wrong(lambda: inline(project, "x", 0), "BadDefinition", number=0, reason="node")
        self.wrong(lambda: inline(self.project(""), "x", 0), "NoFile", name="x")
        self.wrong(lambda: extract(self.project(""), "x", 0, 0, "q"), "NoFile", name="x")

    def test_occurrence(self):
        for place in (-1, 0, 3, 5, 8, 9, 99):
            self.refused(["def b = 1;"], place, "occurrence", "m", place)
        self.refused(["def b = 1; show 2 b;"], 18, "occurrence", "m", 18)

    def test_nothing_and_several(self):
        self.refused(["show abc;"], 6, "nothing", "m", 6)
        self.refused(["def b = 1; def b = 2;"], 4, "several", "m", 4)
        self.refused(["def b = 1; def b = 2; show b;"], 27, "several", "m", 27)

    def test_definition(self):
        # What no row describes; what has no body, or a body beside which something is skipped.
        for text, place in (("measure b;", 8), ("end b", 4), ("from m take ren q as b;", 21), ("def b = ;", 4), ("def b = $ 1;", 4),
                            ("def b", 4)):
            self.refused([text], place, "definition", "m", place)
        # It is told with the place of the declaration.
        self.refused(["measure b;", "use 'm'; show in b;"], 17, "definition", "m", 8, file="n")
        self.language = modules(definitions=DEFINITIONS[1:])
        self.refused(["def b = 1;"], 4, "definition", "m", 4)
        self.assertEqual(self.inlined("late a = 1; show a;", place=5), ["show 1;"])

    def test_the_first_row_that_has_a_body(self):
        self.language = with_rule(("node", "pair", [("word", "pair"), ("token", "word", "name"), ("maybe", "left", "left"),
                                                    ("maybe", "right", "right"), ("word", ";")]),
                                  ("node", "left", [("word", "="), ("child", "sum", "sum")]),
                                  ("node", "right", [("word", ":"), ("child", "sum", "sum")]),
                                  names=NAMES + [("declares", "pair", "name", "values")],
                                  definitions=[("definition", "pair", "name", "left"), ("definition", "pair", "name", "right")])
        self.assertEqual((faults(self.language), check_imports(self.language)), ([], None))
        # The body of the first row is there or not; neither can take the place of a use.
        for text in ("pair b = 1; show b;", "pair b : 1; show b;", "pair b = 1 : 2; show b;"):
            self.refused([text], 5, "replaced", "m", len(text) - 2)
        self.refused(["pair b; show b;"], 5, "definition", "m", 5)
        self.assertEqual(self.inlined("pair a : 2; ", place=5), [" "])

    def test_errors(self):
        for text in ("def b = 1", "def b = (1;", "def b = 1 $;", "def b = 1 +;", "def b = call [];", "def b = 1 note;", "def $ b = 1;"):
            self.refused([text], text.index("b"), "errors", "m", text.index("b"))
        self.refused(["def b = (1;", "use 'm'; show b;"], 14, "errors", "m", 4, file="n")
        # What is broken elsewhere does not matter.
        self.assertEqual(self.inlined("def a = 1; show ; show a; show $ 2"), ["show ; show 1; show $ 2"])

    def test_shared(self):
        texts = ["def b = 1;", "def b = 2;", "use 'm'; use 'n'; show b; show b;", "use 'm'; use 'n'; show b;"]
        self.refused(texts, 4, "shared", "o", 23)
        self.refused(["from n take b; from o take b; { show b; } ", "def b = 1;", "def b = 2;"], 12, "shared", "m", 37)
        # "errors" comes first, and "itself" later.
        self.refused(["def b = 1"] + texts[1:], 4, "errors", "m", 4)
        self.refused(["def b = b;"] + texts[1:], 4, "shared", "o", 23)

    def test_itself(self):
        self.refused(["def b = 1 + b * b; show b;"], 4, "itself", "m", 12)
        self.refused(["show b; def b = b;"], 5, "itself", "m", 16)
        # Ahead of uses that cannot be replaced.
        self.refused(["def b = b; show call b [];"], 4, "itself", "m", 8)

    def test_no_one_and_several_uses(self):
        self.assertEqual(self.inlined("def a = 1;"), [""])
        self.assertEqual(self.inlined(" def a = 1; show 2;"), [" show 2;"])
        self.assertEqual(self.inlined("def a = 1; show a;"), ["show 1;"])
        self.assertEqual(self.inlined("show b; def a = 1; show a + a; { show a; }"), ["show b; show 1 + 1; { show 1; }"])

    def test_from_everywhere(self):
        texts = ["def a = 1; show a;", "from m take a; show a;"]
        expected = ["show 1;", " show 1;"]
        for file, place in (("m", 4), ("m", 16), ("n", 12), ("n", 20)):
            self.assertEqual(self.inlined(*texts, file=file, place=place), expected)

    def test_operands_and_brackets(self):
        self.assertEqual(self.inlined("def a = 1 + 2; show a; show a + 3; show 3 + a; show a * 3; show ~ a; show (a); show call q [a, a];"),
                         ["show 1 + 2; show 1 + 2 + 3; show 3 + (1 + 2); show (1 + 2) * 3; show ~ (1 + 2); show (1 + 2); "
                          "show call q [1 + 2, 1 + 2];"])
        self.assertEqual(self.inlined("def a = 1 * 2; show a; show a + 3; show a * 3; show 3 * a;"),
                         ["show 1 * 2; show 1 * 2 + 3; show 1 * 2 * 3; show 3 * (1 * 2);"])
        # A body in brackets takes them along.
        self.assertEqual(self.inlined("def a = (1 + 2); show a; show a * 3;"), ["show (1 + 2); show (1 + 2) * 3;"])
        self.assertEqual(self.inlined("def a = ~1; show ~a; show a*a;"), ["show ~~1; show ~1*~1;"])

    def test_gaps(self):
        self.language = modules(tokens=[("word", "[a-z]+"), ("quote", "'[a-z]*'"), ("number", "[0-9]+|~~"),
                                        ("blank", "[ \n]+", None, None, True)])
        self.assertEqual(self.inlined("def a = ~1; show ~a;"), ["show ~ ~1;"])

    def test_several_files(self):
        texts = ["show a; def a = 1 + 2;", "use 'm'; show a * a;", "hand 'm' take a; show 1;", "from o take a; from m take a, b; show a;"]
        self.assertEqual(self.inlined(*texts, place=5), ["show 1 + 2;", "use 'm'; show (1 + 2) * (1 + 2);", " show 1;",
                                                         "from m take b; show 1 + 2;"])

    def test_uses_in_files_of_another_language(self):
        """By its name, though it is the same language."""
        self.refused(["def a = 1;", ("b", "use 'm'; show a;")], 4, "replaced", "n", 14)
        # What is listed there is only taken out.
        self.assertEqual(self.inlined("def a = 1;", ("b", "from m take a; show 2;")), ["", " show 2;"])

    def test_replaced(self):
        # No node has exactly the token; the last use is replaced first.
        for text, position in (("def b = 1; show call b [];", 21), ("def b = 1; show . b of in q;", 18)):
            self.assertEqual(text[position], "b")
            if "call" in text:
                self.refused([text], 4, "replaced", "m", position)
        self.refused(["def b = 1; show call b []; show b; show call b [2];"], 4, "replaced", "m", 45)
        self.refused(["def b = 1; show call b [];", "use 'm'; show call b []; show b;"], 4, "replaced", "n", 19)
        # The text would be too long.
        text = "def b = " + "c" * 285 + "; show b;"
        self.assertEqual(self.inlined(text, place=4), ["show " + "c" * 285 + ";"])
        self.refused([text + " show b;"], 4, "replaced", "m", 300)
        # The last one can be replaced, the one ahead of it would make too many tokens.
        self.refused(["def b = 1 " + "+ 1 " * 45 + "; show b; show b; show b;"], 4, "replaced", "m", 205)

    def test_the_first_node_for_which_it_can_be_done(self):
        """From the outermost of the nodes that have exactly the token."""
        rules = [("node", "file", [("many", "item", "items")]), ("choice", "item", ["def", "show"]),
                 ("node", "def", [("word", "def"), ("token", "word", "name"), ("word", "="), ("child", "thing", "body"), ("word", ";")]),
                 ("node", "show", [("word", "show"), ("child", "outer", "outer"), ("word", ";")]),
                 ("node", "outer", [("child", "thing", "thing")]), ("choice", "thing", ["use", "number"]),
                 ("node", "use", [("token", "word", "name")]), ("node", "number", [("token", "number", "digits")])]
        self.language = Language({
            "tokens": TOKENS, "rules": rules, "start": "file", "spaces": ["v"], "definitions": [("definition", "def", "name", "body")],
            "names": [("declares", "def", "name", "v"), ("refers", "use", "name", "v")]})
        self.assertEqual(faults(self.language), [])
        self.assertEqual(self.inlined("def a = 1; show a;"), ["show 1;"])

    def test_listed_names(self):
        # The whole import goes with the only item; where it is not the only one, the item alone.
        self.assertEqual(self.inlined("def a = 1;", "from m take a; from m take a, b; hand 'm' take c, a; show 2;"),
                         ["", "from m take b; hand 'm' take c; show 2;"])
        # What is no item as a row of imports says.
        self.language = modules(imports=IMPORTS[3:])
        self.refused(["def a = 1;", "from m take a; show 2;"], 4, "taken", "n", 12)
        self.refused(["def a = 1;", "from m take a; hand 'm' take a; from m take ren a as q;"], 4, "taken", "n", 48)
        self.language = modules(imports=[])
        self.refused(["def a = 1; show a;", "from m take a; show 2;"], 4, "taken", "n", 12)

    def test_a_listed_name_that_goes_with_another_one(self):
        rules = [("choice", "pick", [*rule[2], "both"]) if rule[1] == "pick" else rule for rule in RULES]
        rules.append(("node", "both", [("word", "both"), ("token", "word", "name"), ("token", "word", "other")]))
        self.language = modules(rules=rules, names=NAMES + [("lists", "both", "name", "values"), ("lists", "both", "other", "values")],
                                imports=[("import", "from", "file", "bringers", "picks", "both", name) for name in ("name", "other")])
        self.assertEqual((faults(self.language), check_facts(self.language), check_imports(self.language)), ([], None, None))
        self.refused(["def a = 1;", "from m take both a a, both b b;"], 4, "taken", "n", 17)
        self.refused(["def a = 1;", "from m take both a a;"], 4, "taken", "n", 17)
        self.assertEqual(self.inlined("def a = 1;", "from m take both b b, both c a;", place=4), ["", "from m take both b b;"])

    def test_what_was_declared_in_an_item(self):
        self.differs(["def a = 1;", "from m take ren a as x; show x;"], 4, ("n", 6, 7), (("n", 21, 22),), ())
        self.assertEqual(self.inlined("def a = 1;", "from m take ren a as x; show 2;"), ["", " show 2;"])

    def test_the_definition_is_taken_out(self):
        for text, expected in (("def a = 1; show 2;", "show 2;"), ("show 2; def a = 1;", "show 2;"), ("show 2; def a = 1; show 3;", "show 2; show 3;"),
                               ("{ def a = 1; show a; } show 2;", "{ show 1; } show 2;"), ("{ def a = 1; }", "{  }")):
            self.assertEqual(self.inlined(text, place=text.index("a")), [expected])
        self.refused(["$ def a = 1; $ "], 6, "taken", "m", 6)
        self.refused(["$ def a = 1; $ ; def b = a;"], 25, "taken", "m", 6)

    def test_a_definition_that_is_no_element(self):
        rules = [("node", "file", [("maybe", "def", "def"), ("many", "show", "shows"), ("many", "wrap", "wraps")]),
                 ("node", "wrap", [("child", "def", "def")]),
                 ("node", "def", [("word", "def"), ("token", "word", "name"), ("child", "thing", "body")]),
                 ("node", "show", [("word", "show"), ("child", "thing", "value")]), ("choice", "thing", ["use", "number"]),
                 ("node", "use", [("token", "word", "name")]), ("node", "number", [("token", "number", "digits")])]
        self.language = Language({
            "tokens": TOKENS, "rules": rules, "start": "file", "spaces": ["v"], "definitions": [("definition", "def", "name", "body")],
            "names": [("declares", "def", "name", "v"), ("refers", "use", "name", "v")]})
        self.assertEqual({fault[0] for fault in faults(self.language)}, {"clash"})
        rules[0] = ("node", "file", [("maybe", "def", "def"), ("many", "show", "shows"), ("many", "wrap", "wraps")])
        rules[1] = ("node", "wrap", [("child", "late", "def")])
        rules.append(("node", "late", [("word", "late"), ("token", "word", "name"), ("child", "thing", "body")]))
        self.language = Language({
            "tokens": TOKENS, "rules": rules, "start": "file", "spaces": ["v"],
            "definitions": [("definition", "def", "name", "body"), ("definition", "late", "name", "body")],
            "names": [("declares", "def", "name", "v"), ("declares", "late", "name", "v"), ("refers", "use", "name", "v")]})
        self.assertEqual(faults(self.language), [])
        self.refused(["def b 1 show b"], 4, "taken", "m", 4)
        # The element has exactly the stretch of the definition's node.
        self.assertEqual(self.inlined("show b late b 1 late c 2", place=5), ["show 1 late c 2"])

    def test_differs(self):
        # The names of the body mean something else at the use.
        self.differs(["def b = 1; def a = b; { def b = 2; show a; }"], 15, ("m", 29, 30), (("m", 4, 5),), (("m", 17, 18),))
        self.differs(["def b = 1; def a = b;", "from m take a; show a;"], 15, ("n", 6, 7), (("m", 4, 5),), ())
        self.assertEqual(self.inlined("def b = 1; def a = b; { show a; }", "from m take a, b; show a;", place=15),
                         ["def b = 1; { show b; }", "from m take b; show b;"])
        # The first one, in its new place.
        self.differs(["{ def b = 3; show a + a; } def b = 1; def a = b;"], 18, ("m", 18, 19), (("m", 31, 32),), (("m", 6, 7),))

    def test_a_name_in_the_body_that_led_nowhere(self):
        self.assertEqual(self.inlined("def a = q; show a;"), ["show q;"])
        self.differs(["def a = q; { def q = 1; show a; }"], 4, ("m", 18, 19), (), (("m", 6, 7),))

    def test_the_declaration_hid_another_one(self):
        # Once the definition is taken out, the name would mean the outer one; but no use of it is left.
        self.assertEqual(self.inlined("def a = 1; { def a = 2; show a; } show a;", place=17), ["def a = 1; { show 2; } show a;"])


class ExtractTest(RefactoringTest):
    def extracted(self, text, stretch, name="q", every=False, blank=" "):
        project = self.project(text)
        start = stretch[0] if isinstance(stretch, tuple) else text.index(stretch)
        stop = stretch[1] if isinstance(stretch, tuple) else start + len(stretch)
        return self.changed(project, extract(project, "m", start, stop, name, every=every, blank=blank))[0]

    def call(self, text, stretch, name="q", every=False, blank=" "):
        start = stretch[0] if isinstance(stretch, tuple) else text.index(stretch)
        stop = stretch[1] if isinstance(stretch, tuple) else start + len(stretch)
        return lambda: extract(self.project(text), "m", start, stop, name, every=every, blank=blank)

    def refused(self, text, stretch, reason, *told, **more):
        told = told or (None, None)
        self.wrong(self.call(text, stretch, **more), "Refused", reason=reason, file=told[0], position=told[1])

    def differs(self, text, stretch, occurrence, led, leads, **more):
        self.wrong(self.call(text, stretch, **more), "Differs", occurrence=occurrence, led=led, leads=leads)

    def test_an_expression(self):
        self.assertEqual(self.extracted("show 1 + 2;", "1 + 2"), "def q = 1 + 2 ; show q;")
        self.assertEqual(self.extracted("show 0; show 1 + 2; show 3;", "1 + 2"), "show 0; def q = 1 + 2 ; show q; show 3;")
        self.assertEqual(self.extracted("show 0; show 1+2;", "1+2", blank="\n"), "show 0; def q = 1+2 ;\nshow q;")
        project = self.project("show 1 + 2;")
        self.assertEqual(extract(project, "m", 5, 10, "q"), {"m": ((0, 0, "def q = 1 + 2 ;"), (5, 10, "q"))})

    def test_stretches(self):
        text = "show 3 * ( 1 + 2 ) ;"
        for start, stop, expected in (
                (11, 16, "def q = 1 + 2 ; show 3 * ( q ) ;"), (10, 17, "def q = 1 + 2 ; show 3 * ( q ) ;"),
                (9, 18, "def q = ( 1 + 2 ) ; show 3 * q ;"), (8, 19, "def q = ( 1 + 2 ) ; show 3 * q ;"),
                (5, 18, "def q = 3 * ( 1 + 2 ) ; show q ;"), (4, 19, "def q = 3 * ( 1 + 2 ) ; show q ;"),
                (11, 12, "def q = 1 ; show 3 * ( q + 2 ) ;"), (15, 17, "def q = 2 ; show 3 * ( 1 + q ) ;"),
                # A token that does not lie between the positions as a whole does not count.
                (1, 18, "def q = 3 * ( 1 + 2 ) ; show q ;")):
            self.assertEqual(self.extracted(text, (start, stop)), expected, (start, stop))
        for start, stop in ((11, 14), (13, 16), (9, 16), (11, 18), (7, 18), (5, 8), (0, 20), (0, 18), (5, 20), (13, 14), (9, 10),
                            (18, 18), (16, 11), (-5, 3), (19, 99), (6, 7)):
            self.refused(text, (start, stop), "expression", "m", start)
        self.assertEqual(self.extracted("show abc + d;", (3, 9)), "def q = abc ; show q + d;")

    def test_levels(self):
        text = "show 1 + 2 * 3 - ~ 4;"
        for stretch, expected in (("1 + 2 * 3", "def q = 1 + 2 * 3 ; show q - ~ 4;"), ("2 * 3", "def q = 2 * 3 ; show 1 + q - ~ 4;"),
                                  ("~ 4", "def q = ~ 4 ; show 1 + 2 * 3 - q;"), ("4", "def q = 4 ; show 1 + 2 * 3 - ~ q;"),
                                  ("1 + 2 * 3 - ~ 4", "def q = 1 + 2 * 3 - ~ 4 ; show q;")):
            self.assertEqual(self.extracted(text, stretch), expected)
        self.refused(text, "3 - ~ 4", "expression", "m", 13)
        self.refused(text, "2 * 3 - ~ 4", "expression", "m", 9)

    def test_other_rules(self):
        # The operand of a dot stands at another rule.
        self.refused("show . a of b;", "b", "expression", "m", 12)
        self.assertEqual(self.extracted("show . a of b;", ". a of b"), "def q = . a of b ; show q;")
        self.refused("show 1;", "show 1;", "expression", "m", 0)
        self.assertEqual(self.extracted("show call f [1, 2 + 3];", "2 + 3"), "def q = 2 + 3 ; show call f [1, q];")

    def test_what_is_broken(self):
        for text, stretch in (("show (1 + 2;", "(1 + 2"), ("show 1 + ;", "1 +"), ("show 1 $ + 2;", "1 $ + 2"), ("show (1 $);", "(1 $)")):
            self.refused(text, stretch, "expression", "m", 5)
        self.refused("", (0, 0), "expression", "m", 0)
        self.assertEqual(self.extracted("show (1 + 2", "1 + 2"), "def q = 1 + 2 ; show (q")
        self.assertEqual(self.extracted("show ; show 1 + 2;", "1 + 2"), "show ; def q = 1 + 2 ; show q;")

    def test_the_first_row_with_such_a_node(self):
        self.language = modules(definitions=[DEFINITIONS[1], DEFINITIONS[0]])
        self.assertEqual(self.extracted("show 1;", "1"), "late q = 1 ; show q;")
        self.language = modules(definitions=[("definition", "def", "name", "note"), DEFINITIONS[2]])
        self.assertEqual(self.extracted("show 1;", "1"), "var q = 1 ; show q;")
        self.language = modules(definitions=[])
        self.refused("show 1;", "1", "expression", "m", 5)

    def test_names(self):
        for name in ("12", "q r", "show", "'m'", "$", "q1", " q", "q ", "q\n", "Q"):
            self.refused(" show  1;", (5, 8), "name", "m", 7, name=name)
        for name in ("q", "abcdefghijkl", "shows"):
            self.assertEqual(self.extracted("show 1;", "1", name=name), f"def {name} = 1 ; show {name};")
        # "expression" comes first.
        self.refused("show 1;", "show", "expression", "m", 0, name="12")

    def test_a_name_of_a_skipped_rule(self):
        odd = ("node", "odd", [("word", "odd"), ("token", "blank", "name"), ("word", "="), ("child", "sum", "body"), ("word", ";")])
        self.language = with_rule(odd, names=NAMES + [("declares", "odd", "name", "values")],
                                  definitions=[("definition", "odd", "name", "body")])
        self.refused("show 1;", "1", "name", "m", 5, name=" ")

    def test_a_name_in_another_mode(self):
        """It is read in some mode; where it is put it has to be read as well."""
        tokens = [("word", "[a-z]+"), ("number", "[0-9]+"), ("turn", "<", None, "inner"), ("name", "[A-Z]+", "inner"),
                  ("back", ">", "inner", "main"), ("blank", "[ \n]+", None, None, True)]
        rules = [("node", "file", [("many", "item", "items")]), ("choice", "item", ["def", "show"]),
                 ("node", "def", [("word", "def"), ("token", "turn", "turn"), ("token", "name", "name"), ("token", "back", "back"),
                                  ("child", "thing", "body")]),
                 ("node", "show", [("word", "show"), ("child", "thing", "value")]), ("choice", "thing", ["use", "number"]),
                 ("node", "use", [("token", "word", "name")]), ("node", "number", [("token", "number", "digits")])]
        self.language = Language({
            "tokens": tokens, "rules": rules, "start": "file", "modes": ["main", "inner"], "spaces": ["v"],
            "definitions": [("definition", "def", "name", "body")],
            "names": [("declares", "def", "name", "v"), ("refers", "use", "name", "v")]})
        self.assertEqual((faults(self.language), check_imports(self.language)), ([], None))
        self.refused("show 1", "1", "name", "m", 5, name="q")
        # In the first mode it is no token of the rule, and so no expression.
        self.refused("show 1", "1", "put", "m", 5, name="Q")

    def test_lists(self):
        # The list of the values of a call has no place for a definition, that of a group has.
        self.assertEqual(self.extracted("{ show 1; show call f [2]; }", "2"), "{ show 1; def q = 2 ; show call f [q]; }")
        self.assertEqual(self.extracted("{ { } show 1; } show 2;", "1"), "{ { } def q = 1 ; show q; } show 2;")
        self.assertEqual(self.extracted("def a = 1;", "1"), "def q = 1 ; def a = q;")

    def test_no_list(self):
        rules = [("node", "file", [("maybe", "value", "value"), ("many", "def", "defs"), ("many", "show", "shows")]),
                 ("node", "value", [("word", "!"), ("child", "thing", "thing")]),
                 ("node", "def", [("word", "def"), ("token", "word", "name"), ("child", "thing", "body")]),
                 ("node", "show", [("word", "show"), ("child", "thing", "value")]), ("choice", "thing", ["use", "number"]),
                 ("node", "use", [("token", "word", "name")]), ("node", "number", [("token", "number", "digits")])]
        self.language = Language({
            "tokens": TOKENS, "rules": rules, "start": "file", "spaces": ["v"], "definitions": [("definition", "def", "name", "body")],
            "names": [("declares", "def", "name", "v"), ("refers", "use", "name", "v")]})
        self.assertEqual(faults(self.language), [])
        self.refused("! 1 def a 2", (1, 4), "list", "m", 2)
        self.refused("show 1", "1", "list", "m", 5)
        self.refused("show 1", "1", "name", "m", 5, name="1")
        self.assertEqual(self.extracted("! 1 def a 2", "2"), "! 1 def q 2 def a q")

    def test_an_expression_that_is_an_element(self):
        self.language = Language({
            "tokens": TOKENS, "start": "file", "spaces": ["v"], "definitions": [("definition", "def", "name", "body")],
            "rules": [("node", "file", [("many", "line", "lines", ";")]), ("choice", "line", ["def", "sum"]),
                      ("node", "def", [("word", "def"), ("token", "word", "name"), ("word", "="), ("child", "line", "body")]),
                      ("operators", "sum", "atom", [("left", [("+", "plus")])], ("(", ")")), ("choice", "atom", ["use", "number"]),
                      ("node", "use", [("token", "word", "name")]), ("node", "number", [("token", "number", "digits")])],
            "names": [("declares", "def", "name", "v"), ("refers", "use", "name", "v")]})
        self.assertEqual((faults(self.language), check_imports(self.language)), ([], None))
        self.assertEqual(self.extracted("1; 2 + 3; 4", "2 + 3"), "1; def q = 2 + 3; q; 4")
        self.assertEqual(self.extracted("1 + 2", "1 + 2"), "def q = 1 + 2; q")
        # What stands within an operator stands at another rule.
        self.refused("1; 2 + 3; 4", "3", "expression", "m", 7)
        self.assertEqual(self.extracted("1; (2 + 3); 1", "(2 + 3)", every=True), "1; def q = (2 + 3); q; 1")
        self.assertEqual(self.extracted("1; 2; 1", (6, 7), every=True), "def q = 1; q; 2; q")

    def test_put(self):
        """A name that cannot take the place of the expression."""
        rules = [("choice", "atom", [name for name in rule[2] if name != "name"]) if rule[1] == "atom" else rule for rule in RULES
                 if rule[1] != "name"]
        names = [fact for fact in NAMES if fact[1] != "name"]
        self.language = modules(rules=rules, names=names)
        self.assertEqual(faults(self.language), [])
        self.refused("show 1 + 2;", "1 + 2", "put", "m", 5)
        self.refused("show 1; show 1;", "1", "put", "m", 13, every=True)
        # Ahead of a definition that cannot be written or put in.
        self.refused("show 1; $", "1", "put", "m", 5)

    def test_parts(self):
        odd = ("node", "odd", [("word", "odd"), ("token", "word", "name"), ("token", "number", "many"), ("child", "sum", "body"),
                               ("word", ";")])
        self.language = with_rule(odd, names=NAMES + [("declares", "odd", "name", "values")],
                                  definitions=[("definition", "odd", "name", "body")])
        self.refused("show 1 + 2;", "1 + 2", "parts")
        odd = ("node", "odd", [("word", "odd"), ("token", "word", "name"), ("child", "sum", "body"), ("child", "sum", "other")])
        self.language = with_rule(odd, names=NAMES + [("declares", "odd", "name", "values")],
                                  definitions=[("definition", "odd", "name", "body")])
        self.refused("show 1 + 2;", "1 + 2", "parts")

    def test_definition(self):
        call = "call f [" + "1, " * 96 + "1]"
        self.refused(f"show {call};", call, "definition")
        self.refused("show " + "a" * 590 + ";", "a" * 590, "definition")
        self.assertEqual(self.extracted("show " + "a" * 570 + ";", "a" * 570), "def q = " + "a" * 570 + " ; show q;")

    def test_names_that_are_no_occurrences(self):
        """The name that is put in has to refer, and the one of the definition to declare."""
        self.language = modules(names=[fact for fact in NAMES if fact[:2] != ("refers", "name")])
        self.refused("show 1 + 2;", "1 + 2", "put")
        self.refused("show 1; show 1;", "1", "put", every=True)
        self.language = modules(names=[("declares", "name", "name", "values", "gives") if fact[:2] == ("refers", "name") else fact
                                       for fact in NAMES])
        self.refused("show 1 + 2;", "1 + 2", "put")

    def test_every(self):
        text = "show 1 + 2; { show (1 + 2) * 3; show 1+2 ; } show 2 + 1; show 1 + 2 + 3;"
        self.assertEqual(self.extracted(text, (5, 10), every=True),
                         "def q = 1 + 2 ; show q; { show (q) * 3; show q ; } show 2 + 1; show q + 3;")
        self.assertEqual(self.extracted(text, (5, 10)), "def q = 1 + 2 ; " + text.replace("1 + 2", "q", 1))
        # Within the node that has the list alone.
        self.assertEqual(self.extracted(text, (20, 25), every=True),
                         "show 1 + 2; { def q = 1 + 2 ; show (q) * 3; show q ; } show 2 + 1; show 1 + 2 + 3;")
        # Ahead of the first element of the list in which the name was put.
        self.assertEqual(self.extracted("show 0; { show 1; } show 1;", (25, 26), every=True), "show 0; def q = 1 ; { show q; } show q;")

    def test_every_in_other_fields_of_the_node(self):
        rules = [("node", "file", [("maybe", "value", "value"), ("many", "def", "defs")]),
                 ("node", "value", [("word", "!"), ("child", "thing", "thing")]),
                 ("node", "def", [("word", "def"), ("token", "word", "name"), ("child", "thing", "body")]), ("choice", "thing", ["use", "number"]),
                 ("node", "use", [("token", "word", "name")]), ("node", "number", [("token", "number", "digits")])]
        self.language = Language({
            "tokens": TOKENS, "rules": rules, "start": "file", "spaces": ["v"], "definitions": [("definition", "def", "name", "body")],
            "names": [("declares", "def", "name", "v"), ("refers", "use", "name", "v")]})
        self.assertEqual(self.extracted("! 1 def a 2 def b 1", (18, 19), every=True), "! q def a 2 def q 1 def b q")

    def test_what_is_alike(self):
        # The same texts, but another node, another rule, something skipped.
        self.assertEqual(self.extracted("show a; show call a []; show . a of b; show . c of a; show a $ ; show (a);", (5, 6), every=True),
                         "def q = a ; show q; show call a []; show . a of b; show . c of a; show q $ ; show (q);")
        # Names that look alike and lead elsewhere.
        self.assertEqual(self.extracted("def a = 1; show a + 1; { show a + 1; } { def a = 2; show a + 1; }", (16, 21), every=True),
                         "def a = 1; def q = a + 1 ; show q; { show q; } { def a = 2; show a + 1; }")
        # Names that lead nowhere are alike.
        self.assertEqual(self.extracted("show a + 1; show a + 1;", (5, 10), every=True), "def q = a + 1 ; show q; show q;")

    def test_brackets_are_alike_to_brackets(self):
        self.assertEqual(self.extracted("show (1) + 1 + (1);", "(1)", every=True), "def q = (1) ; show q + 1 + q;")
        self.assertEqual(self.extracted("show (1) + 1 + (1);", (6, 7), every=True), "def q = 1 ; show (q) + q + (q);")

    def test_nodes_within_one_another(self):
        self.assertEqual(self.extracted("show ((1)) + (1);", "((1))", every=True), "def q = ((1)) ; show q + (1);")
        self.assertEqual(self.extracted("show ~ ~ 1 + ~ 1;", "~ ~ 1", every=True), "def q = ~ ~ 1 ; show q + ~ 1;")
        self.assertEqual(self.extracted("show ~ ~ 1 + ~ 1;", "~ 1", every=True), "def q = ~ 1 ; show ~ q + q;")

    def test_the_first_that_cannot_be_replaced(self):
        """They are replaced from the last one to the first."""
        rules = [("node", "file", [("many", "item", "items")]), ("choice", "item", ["def", "show"]),
                 ("node", "def", [("word", "def"), ("token", "word", "name"), ("child", "number", "body")]),
                 ("node", "show", [("word", "show"), ("child", "number", "value")]), ("node", "number", [("token", "number", "digits")])]
        self.language = Language({
            "tokens": TOKENS, "rules": rules, "start": "file", "spaces": ["v"], "definitions": [("definition", "def", "name", "body")],
            "names": [("declares", "def", "name", "v")]})
        self.refused("show 1 show 1 show 2", (5, 6), "put", "m", 12, every=True)
        self.refused("show 1 show 1 show 2", (5, 6), "put", "m", 5)

    def test_differs(self):
        # A declaration of the name stands in the same scope.
        self.differs("def q = 1; show 2;", "2", ("m", 4, 5), (("m", 4, 5),), (("m", 4, 5), ("m", 15, 16)))
        # The name was used for nothing, or for something else.
        self.differs("show 1; show q;", "1", ("m", 25, 26), (), (("m", 4, 5),))
        self.differs("def q = 1; { show q; show 2; }", "2", ("m", 18, 19), (("m", 4, 5),), (("m", 25, 26),))

    def test_a_name_that_leads_elsewhere(self):
        # Only the new names themselves: told with where the definition's name stands now.
        self.differs("show 1 + 2; { def q = 5; show 1 + 2; }", (5, 10), ("m", 42, 43), (("m", 4, 5),), (("m", 30, 31),), every=True)
        self.assertEqual(self.extracted("show 1 + 2; { def q = 5; show 1 + 2; }", (5, 10)),
                         "def q = 1 + 2 ; show q; { def q = 5; show 1 + 2; }")

    def test_a_definition_that_is_not_seen(self):
        """Names that are seen only behind their own end, and a name that is put into another field."""
        self.language = modules(definitions=[DEFINITIONS[1]])
        self.assertEqual(self.extracted("show 1;", "1"), "late q = 1 ; show q;")
        names = [("declares", "def", "name", "units", "gives") if fact[:2] == ("declares", "def") else fact for fact in NAMES]
        self.language = modules(names=names)
        self.differs("show 1;", "1", ("m", 17, 18), (("m", 4, 5),), ())

    def test_tokens_of_the_expression_are_carried(self):
        self.assertEqual(self.extracted("def a = 1; show a + call a [a];", "a + call a [a]"), "def a = 1; def q = a + call a [a] ; show q;")
        # Another file sees the definition as well: a name that led nowhere there.
        project = self.project("show 1;", "use 'm'; show q;")
        self.wrong(lambda: extract(project, "m", 5, 6, "q"), "Differs", occurrence=("n", 14, 15), led=(), leads=(("m", 4, 5),))
        project = self.project("show a; def a = 1;", "use 'm'; show a;")
        self.assertEqual(self.changed(project, extract(project, "m", 5, 6, "q"))[0], "def q = a ;show q; def a = 1;")


class ComparedTest(unittest.TestCase):
    """Everything is compared with another way to it, over random projects."""

    def projects(self):
        for seed in range(70):
            rng = random.Random(seed)
            texts = modules_files(rng)
            if seed < 15:
                texts = {file: modules_text(rng, MODULES, rng.choice((0, 40, 70))) for file in "mno"}
            try:
                yield rng, Project({"a": MODULES, "b": MODULES}, {file: (rng.choice("aaaaaaaaab"), text) for file, text in texts.items()})
            except (TooLong, TooDeep):
                pass

    def count(self, met, question, found):
        word = "changes" if isinstance(found, dict) else found[0] if found[0] != "Refused" else found[1]
        met[question, word] = met.get((question, word), 0) + 1

    def test_random_projects(self):
        met = {}
        for rng, project in self.projects():
            for _ in range(3):
                file, blank = rng.choice(project.file_names()), rng.choice(("", " ", "\n"))
                words = [row[4] for row in project.tree(file) if row[2:4] == ("token", ("rule", "word"))]
                place = rng.choice(words) if words and rng.random() < 0.9 else rng.randint(-1, 20)
                found = told(inline, project, file, place)
                self.assertEqual(found, slow_told(project, "inline", file, place), (file, place))
                self.count(met, "inline", found)
                rows = [row for row in project.tree(file) if row[2] == "node"]
                start, stop = rng.choice(rows)[4:] if rows and rng.random() < 0.9 else (rng.randint(0, 9), rng.randint(0, 30))
                name, every = rng.choice("qqqqzab1"), rng.random() < 0.5
                found = told(extract, project, file, start, stop, name, every=every, blank=blank)
                self.assertEqual(found, slow_told(project, "extract", file, start, stop, name, every, blank), (file, start, stop, name))
                self.count(met, "extract", found)
        for question, words in (("inline", ("changes", "nothing", "several", "definition", "itself", "occurrence")),
                                ("extract", ("changes", "Differs", "expression", "name"))):
            for word in words:
                self.assertIn((question, word), met)
        self.assertGreater(met["inline", "changes"], 10)
        self.assertGreater(met["extract", "changes"], 10)


if __name__ == "__main__":
    unittest.main()
