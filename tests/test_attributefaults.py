"""The faults of a language's attributes ([H12] to [H15])."""

import unittest

from tongues.attributefaults import attribute_faults, reads_names
from tongues.expressions import read_expression
from tongues.facts import check_facts
from tongues.grammar import faults
from tongues.languages import Language
from tests.attributing import CHECKS, EQUATIONS, attributing
from tests.raising import raised

# Attributes of every way and sort; those with nothing in their names are at a few nodes only.
GIVEN = [
    ("int", "up", "integer", ["sum", "item", "file", "mark"]), ("bool", "up", "boolean", ["sum", "item", "file", "mark"]),
    ("text", "up", "text", ["sum", "item", "file", "mark"]), ("term", "up", "term", ["sum", "item", "file", "mark"]),
    ("low", "down", "integer", ["sum", "item", "mark"]), ("some", "up", "integer", ["plus", "let"]),
    ("titled", "up", "text", ["head", "mark"]), ("heads", "up", "boolean", ["head"])]
VALUES = {"integer": "1", "boolean": "true", "text": '"t"', "term": '(term "t")'}
NAMES = {"integer": "int", "boolean": "bool", "text": "text", "term": "term"}


def found(section, attributes=tuple(GIVEN), equations=(), checks=(), **more):
    """The faults of one sort of a language with these sections."""
    language = Language(attributing(attributes=attributes, equations=equations, checks=checks, **more))
    return [fault for fault in attribute_faults(language) if fault[0] == section]


class Case(unittest.TestCase):
    def equation(self, *equation):
        """What is told of one equation: a reason, the canonical text of a wrong part, or None."""
        faults_found = found("equations", equations=[equation])
        self.assertLessEqual(len(faults_found), 1)
        return faults_found[0][2:] if faults_found else None

    def right(self, node, field, sort, text):
        """An expression that has the sort and no wrong part, in an equation for a node or a field."""
        for other, name in NAMES.items():
            attribute = name if field is None else "d" + name
            attributes = GIVEN + [("d" + name, "down", kind, ["sum", "item", "mark", "head"]) for kind, name in NAMES.items()]
            equation = (node, attribute, text) if field is None else (node, field, attribute, text)
            told = found("equations", attributes, [equation])
            self.assertEqual(told, [] if other == sort else [("equations", 0, "sort")], (equation, other))

    def wrong(self, node, field, text, part=None):
        """An expression with a first wrong part; the whole one if none is told."""
        attribute = "int" if field is None else "low"
        equation = (node, attribute, text) if field is None else (node, field, attribute, text)
        self.assertEqual(found("equations", equations=[equation]),
                         [("equations", 0, "part", read_expression(part or text))], equation)


class WholeTest(unittest.TestCase):
    def test_a_language_without_faults(self):
        language = Language(attributing())
        self.assertEqual((faults(language), check_facts(language)), ([], None))
        self.assertEqual(attribute_faults(language), [])

    def test_a_language_without_attributes(self):
        language = Language(attributing(attributes=[], equations=[], checks=[]))
        self.assertEqual(attribute_faults(language), [])
        self.assertEqual(reads_names(language), [])

    def test_bad_sections(self):
        language = Language(attributing(equations=[("A", "b", "c")]))
        for call in (attribute_faults, reads_names):
            self.assertEqual(raised(call, language),
                             ("BadSection", {"section": "equations", "number": 0, "reason": "name"}))

    def test_each_equation_that_lacks_is_told(self):
        for number, equation in enumerate(EQUATIONS):
            language = Language(attributing(equations=EQUATIONS[:number] + EQUATIONS[number + 1:]))
            field = None if len(equation) == 3 else equation[1]
            self.assertEqual(attribute_faults(language), [("nodes", equation[0], field, equation[-2])])

    def test_all_at_once_in_order(self):
        language = Language(attributing(
            attributes=[("a", "up", "integer", ["x", "use", "y"], "1"), ("a", "down", "text", ["z"], "1"),
                        ("b", "down", "integer", ["sum"], "(own b)"), ("c", "down", "text", ["use"], "2")],
            equations=[("x", "a", "1"), ("use", "a", "true"), ("use", "a", "1"), ("number", "q", "1"),
                       ("use", "a", "(own b)")],
            checks=[("x", "1", "1"), ("use", "1", "1"), ("use", "(own a)", "(own q)")]))
        self.assertEqual(attribute_faults(language), [
            ("attributes", 0, "rule", "x"), ("attributes", 0, "rule", "y"), ("attributes", 0, "up"),
            ("attributes", 1, "double"), ("attributes", 1, "rule", "z"), ("attributes", 1, "sort"),
            ("attributes", 2, "reads"), ("attributes", 3, "sort"),
            ("equations", 0, "node"), ("equations", 1, "sort"), ("equations", 2, "double"), ("equations", 3, "attribute"),
            ("equations", 4, "double"),
            ("checks", 0, "node"), ("checks", 1, "condition", "sort"), ("checks", 1, "message", "sort"),
            ("checks", 2, "condition", "sort"), ("checks", 2, "message", "part", ("own", "q")),
            ("nodes", "let", "value", "b"), ("nodes", "let", "value", "c"), ("nodes", "show", "value", "b"),
            ("nodes", "show", "value", "c"), ("nodes", "plus", "left", "b"), ("nodes", "plus", "left", "c"),
            ("nodes", "plus", "right", "b"), ("nodes", "plus", "right", "c"), ("nodes", "minus", "operand", "b"),
            ("nodes", "minus", "operand", "c")])

    def test_the_order_of_attributes_comes_ahead_of_that_of_equations(self):
        told = attribute_faults(Language(attributing(attributes=[("b", "up", "text", ["use"]), ("a", "up", "text", ["use"])],
                                                     equations=[], checks=[])))
        self.assertEqual(told, [("nodes", "use", None, "b"), ("nodes", "use", None, "a")])


class AttributesTest(unittest.TestCase):
    """[H12]"""

    def test_doubles(self):
        one, other = ("a", "up", "integer", ["use"]), ("b", "up", "integer", ["use"])
        self.assertEqual(found("attributes", [one, other, one, other, one]),
                         [("attributes", 2, "double"), ("attributes", 3, "double"), ("attributes", 4, "double")])

    def test_the_earlier_one_counts_everywhere(self):
        attributes = [("a", "up", "integer", ["use"]), ("a", "down", "text", ["number", "let"])]
        equations = [("use", "a", "1"), ("let", "value", "a", '"x"'), ("number", "a", '"x"')]
        language = Language(attributing(attributes=attributes, equations=equations, checks=[]))
        self.assertEqual(attribute_faults(language), [("attributes", 1, "double"), ("equations", 1, "up"),
                                                      ("equations", 2, "none")])

    def test_rules(self):
        rules = ["x", "sum", "plus", "minus", "use", "atom", "file", "x", "word", "left", "values"]
        self.assertEqual(found("attributes", [("a", "up", "integer", rules)]), [
            ("attributes", 0, "rule", name) for name in ("x", "x", "word", "left", "values")])

    def test_roots(self):
        def told(way, sort, root):
            return [fault[2] for fault in found("attributes", [("a", way, sort, ["use"], root)])]

        for sort, text in VALUES.items():
            self.assertEqual(told("down", sort, text), [])
            self.assertEqual(told("up", sort, text), ["up"])
            for other in VALUES:
                if other != sort:
                    self.assertEqual(told("down", other, text), ["sort"])
        self.assertEqual(told("up", "text", "(own a)"), ["up"])
        for text in ("(own a)", "(child left a)", "(before a 1)", "(has f)", "(count f)", "(spelling f)", "(meant f a)",
                     "(last f a 1)", "(sum f a)", "(all f a)", "(any f a)", "(collect f a)", "(join f a \"\")",
                     "(add 1 (own a))", "(add true (if 1 2 (has f)))", '(term "a" (count f))'):
            self.assertEqual(told("down", "integer", text), ["reads"])
        for text in ("(add 1 true)", "(if 1 2 3)", '(term "a" 1)', "(same 1 true)", "(else 1 true)",
                     "(same (add 1 true) (add 1 true))", "(if (same 1 true) 1 2)"):
            for sort in VALUES:
                self.assertEqual(told("down", sort, text), ["sort"])
        for text in ("(add 1 2)", '(if true 1 (length "abc"))', "(else (quotient 1 0) 2)"):
            self.assertEqual(told("down", "integer", text), [])


class PlacesTest(Case):
    """[H13]"""

    def test_nodes(self):
        for node in ("x", "sum", "item", "atom", "word"):
            self.assertEqual(self.equation(node, "nothing", "(own q)"), ("node",))
            self.assertEqual(self.equation(node, "value", "nothing", "(own q)"), ("node",))

    def test_attributes(self):
        self.assertEqual(self.equation("let", "nothing", "(own q)"), ("attribute",))
        self.assertEqual(self.equation("let", "nothing", "nothing", "(own q)"), ("attribute",))

    def test_without_a_field(self):
        self.assertEqual(self.equation("use", "low", "(own q)"), ("down",))
        self.assertEqual(self.equation("file", "low", "(own q)"), ("down",))
        for node in ("use", "number", "minus", "show", "file", "head"):
            self.assertEqual(self.equation(node, "some", "(own q)"), ("none",))
        for node in ("plus", "let"):
            self.assertIsNone(self.equation(node, "some", "1"))
        for node in ("use", "number", "plus", "minus", "let", "show", "file", "mark"):
            self.assertIsNone(self.equation(node, "int", "1"))
        self.assertEqual(self.equation("head", "int", "1"), ("none",))

    def test_with_a_field(self):
        for node, field in (("let", "nothing"), ("let", "name"), ("file", "value"), ("plus", "operand"), ("minus", "left"),
                            ("number", "digits"), ("mark", "place")):
            self.assertEqual(self.equation(node, field, "int", "(own q)"), ("field",))
        for node, field in (("let", "value"), ("plus", "left"), ("file", "items"), ("file", "head")):
            self.assertEqual(self.equation(node, field, "int", "(own q)"), ("up",))
        self.assertEqual(self.equation("file", "head", "low", "(own q)"), ("none",))
        for node, field in (("let", "value"), ("plus", "left"), ("plus", "right"), ("minus", "operand"), ("file", "items"),
                            ("file", "marks")):
            self.assertIsNone(self.equation(node, field, "low", "1"))

    def test_some_node_that_can_be_there_is_enough(self):
        attributes = [("a", "down", "integer", ["number"]), ("b", "down", "integer", ["show"])]
        self.assertEqual(found("equations", attributes, [("plus", "left", "a", "1"), ("file", "items", "b", "1")]), [])
        self.assertEqual(found("equations", attributes, [("plus", "left", "b", "1"), ("file", "items", "a", "1")]),
                         [("equations", 0, "none"), ("equations", 1, "none")])

    def test_doubles(self):
        rows = [("let", "int", "1"), ("let", "value", "low", "1"), ("let", "int", "(own q)"), ("let", "value", "low", "(own q)"),
                ("show", "int", "1"), ("let", "bool", "true"), ("show", "value", "low", "1"), ("let", "int", "1")]
        self.assertEqual(found("equations", equations=rows),
                         [("equations", 2, "double"), ("equations", 3, "double"), ("equations", 7, "double")])
        # An earlier one with faults counts, too; the other reasons come ahead.
        rows = [("let", "int", "(own q)"), ("let", "int", "1"), ("x", "int", "1"), ("x", "int", "1"), ("file", "some", "1"),
                ("file", "some", "1")]
        self.assertEqual(found("equations", equations=rows), [
            ("equations", 0, "part", ("own", "q")), ("equations", 1, "double"), ("equations", 2, "node"),
            ("equations", 3, "node"), ("equations", 4, "none"), ("equations", 5, "none")])

    def test_sorts(self):
        for sort, text in VALUES.items():
            self.right("let", None, sort, text)
            self.right("let", "value", sort, text)


class PartsTest(Case):
    """[H14]"""

    def test_sorts_of_operands(self):
        table = {
            "not": ("boolean", "boolean"), "negative": ("integer", "integer"), "length": ("integer", "text"),
            "shown": ("text", "integer"), "parsed": ("integer", "text"), "label": ("text", "term"),
            "size": ("integer", "term"), "named": ("term", "text"), "add": ("integer", "integer", "integer"),
            "subtract": ("integer", "integer", "integer"), "multiply": ("integer", "integer", "integer"),
            "quotient": ("integer", "integer", "integer"), "remainder": ("integer", "integer", "integer"),
            "less": ("boolean", "integer", "integer"), "and": ("boolean", "boolean", "boolean"),
            "or": ("boolean", "boolean", "boolean"), "append": ("text", "text", "text"), "with": ("term", "term", "term"),
            "argument": ("term", "term", "integer")}
        for word, (result, *operands) in table.items():
            values = [VALUES[sort] for sort in operands]
            self.right("let", None, result, f"({word} {' '.join(values)})")
            for place, sort in enumerate(operands):
                for other, value in VALUES.items():
                    if other != sort:
                        changed = values[:place] + [value] + values[place + 1:]
                        self.wrong("let", None, f"({word} {' '.join(changed)})")

    def test_operands_of_one_sort(self):
        for sort, value in VALUES.items():
            self.right("let", None, "boolean", f"(same {value} {value})")
            self.right("let", None, sort, f"(else {value} {value})")
            self.right("let", None, sort, f"(if true {value} {value})")
            for other, another in VALUES.items():
                if other != sort:
                    for text in (f"(same {value} {another})", f"(else {value} {another})", f"(if true {value} {another})",
                                 f"(if {value if sort != 'boolean' else another} {value} {value})"):
                        self.wrong("let", None, text)

    def test_terms(self):
        for below in ("", ' (term "a")', " (own term)" * 6):
            self.right("let", None, "term", f'(term "t"{below})')
        for sort in ("integer", "boolean", "text"):
            self.wrong("let", None, f'(term "t" {VALUES[sort]})')
            self.wrong("let", None, f'(term "t" (own term) (own term) {VALUES[sort]})')

    def test_own(self):
        for sort, name in NAMES.items():
            self.right("let", None, sort, f"(own {name})")
            self.right("let", "value", sort, f"(own {name})")
        self.right("let", None, "integer", "(own low)")
        self.right("let", "value", "integer", "(own some)")
        for text in ("(own nothing)", "(own titled)", "(own value)"):
            self.wrong("let", None, text)
        self.wrong("show", None, "(own some)")
        self.wrong("file", "items", "(own low)")

    def test_child(self):
        for node, field in (("let", "value"), ("plus", "left"), ("plus", "right"), ("minus", "operand")):
            for sort, name in NAMES.items():
                self.right(node, None, sort, f"(child {field} {name})")
            self.right(node, None, "integer", f"(child {field} low)")
            # Only some of the nodes that can be there have it.
            self.wrong(node, None, f"(child {field} some)")
            self.wrong(node, None, f"(child {field} nothing)")
        self.right("file", None, "boolean", "(child head heads)")
        self.right("file", "items", "boolean", "(child head heads)")
        for text in ("(child items int)", "(child marks int)", "(child nothing int)", "(child head int)"):
            self.wrong("file", None, text)
        self.wrong("let", None, "(child name int)")

    def test_before(self):
        for sort, name in NAMES.items():
            self.right("file", "items", sort, f"(before {name} {VALUES[sort]})")
            self.right("file", "marks", sort, f"(before {name} (last items {name} {VALUES[sort]}))")
            for other, value in VALUES.items():
                if other != sort:
                    self.wrong("file", "items", f"(before {name} {value})")
        self.right("file", "marks", "text", '(before titled "a")')
        for text in ("(before low 1)", "(before some 1)", '(before titled "a")', "(before nothing 1)", "(before heads true)"):
            self.wrong("file", "items", text)
        for node, field in (("let", "value"), ("plus", "left"), ("minus", "operand")):
            self.wrong(node, field, "(before int 1)")
        for node in ("file", "let"):
            self.wrong(node, None, "(before int 1)")

    def test_has(self):
        for node, field in (("let", "name"), ("let", "value"), ("plus", "left"), ("minus", "operand"), ("number", "digits"),
                            ("file", "head")):
            self.right(node, None, "boolean", f"(has {field})")
        for node, field in (("file", "items"), ("file", "marks"), ("let", "nothing"), ("plus", "operand")):
            self.wrong(node, None, f"(has {field})")

    def test_count(self):
        for field in ("items", "marks"):
            self.right("file", None, "integer", f"(count {field})")
        for node, field in (("file", "head"), ("let", "name"), ("let", "value"), ("plus", "left"), ("file", "nothing")):
            self.wrong(node, None, f"(count {field})")

    def test_spelling(self):
        for node, field in (("let", "name"), ("number", "digits"), ("use", "name"), ("mark", "maker")):
            self.right(node, None, "text", f"(spelling {field})")
        for node, field in (("file", "head"), ("file", "items"), ("let", "value"), ("plus", "left"), ("let", "nothing")):
            self.wrong(node, None, f"(spelling {field})")

    def test_last(self):
        for sort, name in NAMES.items():
            self.right("file", None, sort, f"(last items {name} {VALUES[sort]})")
            self.right("file", "items", sort, f"(last marks {name} {VALUES[sort]})")
            for other, value in VALUES.items():
                if other != sort:
                    self.wrong("file", None, f"(last items {name} {value})")
        self.right("file", None, "integer", "(last items low 1)")
        for text in ("(last items some 1)", "(last items nothing 1)", "(last head heads true)", "(last nothing int 1)",
                     "(last items heads true)"):
            self.wrong("file", None, text)
        self.wrong("let", None, "(last value int 1)")
        self.wrong("let", None, "(last name int 1)")

    def test_what_is_gathered(self):
        for word, needed in (("sum", "integer"), ("all", "boolean"), ("any", "boolean"), ("collect", "term"), ("join", "text")):
            rest = ' ", "' if word == "join" else ""
            for sort, name in NAMES.items():
                for field in ("items", "marks"):
                    text = f"({word} {field} {name}{rest})"
                    if sort == needed:
                        self.right("file", None, needed, text)
                    else:
                        self.wrong("file", None, text)
            name = NAMES[needed]
            for text in (f"({word} items nothing{rest})", f"({word} items titled{rest})", f"({word} items heads{rest})",
                         f"({word} items some{rest})", f"({word} head {name}{rest})", f"({word} nothing {name}{rest})"):
                self.wrong("file", None, text)
            self.wrong("let", None, f"({word} value {name}{rest})")
            self.wrong("let", None, f"({word} name {name}{rest})")
        self.right("file", None, "integer", "(sum items low)")
        self.right("file", None, "text", '(join marks titled "")')

    def test_meant(self):
        for sort, name in NAMES.items():
            self.right("use", None, sort, f"(meant name {name})")
            self.right("mark", None, sort, f"(meant place {name})")
        self.right("use", None, "integer", "(meant name some)")
        self.right("mark", None, "text", "(meant maker titled)")
        # Not all of the nodes that declare in the space have it; a field that declares; fields without a fact.
        for node, text in (("mark", "(meant maker int)"), ("mark", "(meant maker heads)"), ("use", "(meant name titled)"),
                           ("use", "(meant name nothing)"), ("let", "(meant name int)"), ("mark", "(meant name titled)"),
                           ("number", "(meant digits int)"), ("let", "(meant value int)"), ("use", "(meant nothing int)"),
                           ("file", "(meant items int)")):
            self.wrong(node, None, text)

    def test_meant_in_a_space_in_which_nothing_declares(self):
        names = [("refers", "use", "name", "places"), ("declares", "let", "name", "values")]
        told = found("equations", equations=[("use", "int", "(meant name int)")], names=names)
        self.assertEqual(told, [("equations", 0, "part", ("meant", "name", "int"))])

    def test_a_field_that_brings_a_file_means_nothing(self):
        names = [("brings", "use", "name"), ("declares", "let", "name", "values")]
        told = found("equations", equations=[("use", "int", "(meant name int)")], names=names)
        self.assertEqual(told, [("equations", 0, "part", ("meant", "name", "int"))])

    def test_the_first_wrong_part(self):
        self.wrong("let", None, "(add (add true 1) (add 1 true))", "(add true 1)")
        self.wrong("let", None, "(add (add 1 1) (own nothing))", "(own nothing)")
        self.wrong("let", None, "(add true (own nothing))", "(own nothing)")
        self.wrong("let", None, "(if (not (own q)) (own r) 1)", "(own q)")
        self.wrong("let", None, '(term "a" (term "b" 1) (own q))', '(term "b" 1)')
        self.wrong("file", None, "(last nothing int (own q))", "(own q)")
        self.wrong("file", "items", "(before nothing (own q))", "(own q)")
        self.wrong("let", None, "(if 1 (if 2 3 4) 5)", "(if 2 3 4)")
        self.wrong("let", None, "(not (add 1 2))", "(not (add 1 2))")

    def test_attributes_of_choices_and_operators(self):
        attributes = [("a", "up", "integer", ["item"]), ("b", "up", "integer", ["plus", "minus", "atom"]),
                      ("c", "up", "integer", ["plus", "minus", "use"])]
        for text, wrong in (("(sum items a)", False), ("(add (sum items a) 1)", False)):
            self.assertEqual(bool(found("equations", attributes + [("z", "up", "integer", ["file"])], [("file", "z", text)])),
                             wrong)
        self.assertEqual(found("equations", attributes, [("let", "a", "(child value b)")]), [])
        self.assertEqual(found("equations", attributes, [("let", "a", "(child value c)")]),
                         [("equations", 0, "part", ("child", "value", "c"))])


class ChecksTest(Case):
    """[H15]"""

    def check(self, *check):
        return [fault[2:] for fault in found("checks", checks=[check])]

    def test_nodes(self):
        for node in ("x", "sum", "item", "word"):
            self.assertEqual(self.check(node, "1", "1"), [("node",)])
        for node in ("let", "plus", "file", "head"):
            self.assertEqual(self.check(node, "true", '"x"'), [])

    def test_conditions_and_messages(self):
        for sort, value in VALUES.items():
            self.assertEqual(self.check("let", value, '"x"'), [] if sort == "boolean" else [("condition", "sort")])
            self.assertEqual(self.check("let", "true", value), [] if sort == "text" else [("message", "sort")])
        self.assertEqual(self.check("let", "1", "1"), [("condition", "sort"), ("message", "sort")])
        self.assertEqual(self.check("let", "(not (own q))", "(own r)"),
                         [("condition", "part", ("own", "q")), ("message", "part", ("own", "r"))])
        self.assertEqual(self.check("let", "(own int)", "(own q)"), [("condition", "sort"), ("message", "part", ("own", "q"))])

    def test_before_does_not_stand_in_checks(self):
        self.assertEqual(self.check("file", "(before bool true)", '(before text "a")'), [
            ("condition", "part", read_expression("(before bool true)")),
            ("message", "part", read_expression('(before text "a")'))])

    def test_several_checks(self):
        told = found("checks", checks=[("let", "true", '"x"'), ("x", "1", "1"), ("let", "1", '"x"'), ("let", "true", "1")])
        self.assertEqual(told, [("checks", 1, "node"), ("checks", 2, "condition", "sort"), ("checks", 3, "message", "sort")])


class LackingTest(Case):
    """[H15]"""

    def told(self, attributes, equations=()):
        return [fault[1:] for fault in found("nodes", attributes, equations)]

    def test_attributes_that_go_up(self):
        self.assertEqual(self.told([("a", "up", "text", ["sum"])]),
                         [("use", None, "a"), ("number", None, "a"), ("plus", None, "a"), ("minus", None, "a")])
        self.assertEqual(self.told([("a", "up", "text", ["minus", "head", "plus"])]),
                         [("head", None, "a"), ("plus", None, "a"), ("minus", None, "a")])
        self.assertEqual(self.told([("a", "up", "text", ["nothing"])]), [])
        self.assertEqual(self.told([("a", "up", "text", ["plus"])], [("plus", "a", '"x"')]), [])

    def test_attributes_that_go_down(self):
        self.assertEqual(self.told([("a", "down", "text", ["use"])]),
                         [("let", "value", "a"), ("show", "value", "a"), ("plus", "left", "a"), ("plus", "right", "a"),
                          ("minus", "operand", "a")])
        self.assertEqual(self.told([("a", "down", "text", ["mark", "head"])]),
                         [("file", "head", "a"), ("file", "marks", "a")])
        self.assertEqual(self.told([("a", "down", "text", ["file"])]), [])
        self.assertEqual(self.told([("a", "down", "text", ["show"])], [("file", "items", "a", '"x"')]), [])

    def test_the_order(self):
        attributes = [("b", "down", "text", ["item"]), ("a", "up", "text", ["file", "let"]), ("c", "down", "text", ["head", "let"]),
                      ("d", "up", "text", ["let"]), ("a", "up", "text", ["show"])]
        self.assertEqual(self.told(attributes), [
            ("file", None, "a"), ("file", "head", "c"), ("file", "items", "b"), ("file", "items", "c"),
            ("let", None, "a"), ("let", None, "d")])

    def test_an_equation_with_faults_is_one(self):
        self.assertEqual(self.told([("a", "up", "text", ["let"])], [("let", "a", "(own q)")]), [])


class ReadsNamesTest(unittest.TestCase):
    def numbers(self, *equations):
        return reads_names(Language(attributing(attributes=GIVEN, equations=equations, checks=[])))

    def test_fields(self):
        for node, field, reads in (("let", "name", True), ("use", "name", True), ("mark", "place", True), ("mark", "maker", True),
                                   ("mark", "name", True), ("head", "title", True), ("number", "digits", False),
                                   ("let", "nothing", False), ("let", "title", False), ("nothing", "name", False)):
            self.assertEqual(self.numbers((node, "text", f"(spelling {field})")), [0] if reads else [])

    def test_the_numbers(self):
        self.assertEqual(self.numbers(
            ("number", "text", "(spelling digits)"), ("let", "text", "(spelling name)"), ("let", "int", "1"),
            ("let", "value", "low", '(length (append "a" (spelling name)))'), ("let", "bool", "(has name)"),
            ("use", "int", "(meant name int)"), ("use", "text", "(append (spelling name) (spelling name))")), [1, 3, 6])
        self.assertEqual(reads_names(Language(attributing())),
                         [number for number, row in enumerate(EQUATIONS) if "(spelling name)" in row[-1]])

    def test_the_field_is_that_of_the_node_of_the_equation(self):
        self.assertEqual(self.numbers(("show", "text", "(spelling name)"), ("let", "value", "low", "(length (spelling name))")),
                         [1])

    def test_what_brings_a_file_does_not_count(self):
        language = Language(attributing(attributes=GIVEN, checks=[], names=[("brings", "use", "name")],
                                        equations=[("use", "text", "(spelling name)")]))
        self.assertEqual(reads_names(language), [])

    def test_attributes_and_checks_do_not_count(self):
        language = Language(attributing(equations=[], checks=CHECKS + [("let", "(same (spelling name) \"a\")", "(spelling name)")]))
        self.assertEqual(reads_names(language), [])


if __name__ == "__main__":
    unittest.main()
