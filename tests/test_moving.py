"""Moving a declaration to another file ([K4] to [K10])."""

import random
import unittest

from tongues.candidates import Differs, Refused
from tongues.errors import TooDeep, TooLong, TongueError
from tongues.facts import check_facts
from tongues.grammar import faults
from tongues.imports import check_imports
from tongues.languages import Language
from tongues.moving import move
from tongues.projects import Project
from tongues.texts import apply_change
from tests.languages import TOKENS
from tests.modules import IMPORTS, RULES, modules
from tests.modules import TOKENS as MODULE_TOKENS
from tests.raising import raised, told
from tests.randomtexts import modules_files, modules_text
from tests.slowrefactoring import slow_told

MODULES = modules()

# The start can be either of two nodes, and each of them has another list; or nothing, in a text without tokens.
BAGS = Language({
    "tokens": TOKENS, "start": "start", "spaces": ["v"],
    "rules": [("choice", "start", ["box", "bag"]), ("node", "box", [("word", "box"), ("many", "def", "defs", ",")]),
              ("node", "bag", [("word", "bag"), ("token", "word", "own"), ("many", "def", "others")]),
              ("node", "def", [("word", "def"), ("token", "word", "name")])],
    "names": [("declares", "def", "name", "v", "gives"), ("declares", "bag", "own", "v", "gives")]})


class MoveTest(unittest.TestCase):
    language = MODULES

    def project(self, *texts):
        self.languages = {"a": self.language, "b": self.language}
        return Project(self.languages, {"mnop"[number]: text if isinstance(text, tuple) else ("a", text)
                                        for number, text in enumerate(texts)})

    def moved(self, texts, place, target, index, blank=""):
        """The texts after a move of what is declared at a mark in the file m."""
        project = self.project(*texts)
        at = texts[0].index(place) if isinstance(place, str) else place
        changes = move(project, "m", at, target, index, blank=blank)
        self.assertEqual(list(changes), sorted(changes))
        self.assertTrue(all(changes.values()))
        return [apply_change(project.text(file), changes.get(file, ())) for file in project.file_names()]

    def refused(self, texts, place, target, index, reason, file=None, position=None, blank=""):
        at = texts[0].index(place) if isinstance(place, str) else place
        found = raised(lambda: move(self.project(*texts), "m", at, target, index, blank=blank))
        self.assertEqual(found, ("Refused", {"reason": reason, "file": file, "position": position}))

    def differs(self, texts, place, target, index, occurrence, led, leads, blank=""):
        found = raised(lambda: move(self.project(*texts), "m", texts[0].index(place), target, index, blank=blank))
        self.assertEqual(found, ("Differs", {"occurrence": occurrence, "led": led, "leads": leads}))


class RefusedTest(MoveTest):
    def test_the_errors(self):
        self.assertEqual((Refused.__bases__, Differs.__bases__), ((TongueError,), (TongueError,)))
        error = Refused("put", None, None)
        self.assertEqual((error.reason, error.file, error.position), ("put", None, None))
        error = Differs(("m", 0, 1), (), ())
        self.assertEqual((error.occurrence, error.led, error.leads), (("m", 0, 1), (), ()))

    def test_wrong_languages(self):
        """The languages in order, also those that no file has, ahead of everything else."""
        for wrong, error in ((modules(imports=[()]), "BadImport"), (modules(definitions=[()]), "BadDefinition")):
            project = Project({"a": MODULES, "b": wrong, "c": modules(imports=[("x",) * 4])}, {"m": ("a", "def a = 1;")})
            self.assertEqual(raised(move, project, "x", 0, "x", 0), (error, {"number": 0, "reason": "length"}))
        project = Project({"a": modules(imports=[("x",) * 4]), "b": modules(imports=[()])}, {})
        self.assertEqual(raised(move, project, "x", 0, "x", 0), ("BadImport", {"number": 0, "reason": "word"}))

    def test_no_file(self):
        project = self.project("def a = 1; { def b = 2; } show a;")
        self.assertEqual(raised(move, project, "x", 4, "y", 0), ("NoFile", {"name": "x"}))
        self.assertEqual(raised(move, project, "m", 4, "y", 0), ("NoFile", {"name": "y"}))
        # The target comes behind the reasons "declaration" and "scope", and ahead of "list".
        self.refused(["def a = 1; show a;"], "a;", "y", 0, "declaration", "m", 16)
        self.refused(["{ def b = 1; }"], "b", "y", 0, "scope", "m", 6)
        self.assertEqual(raised(move, self.project("end a"), "m", 4, "y", 0), ("NoFile", {"name": "y"}))

    def test_declaration(self):
        texts = ["from n take c; def ab = 1; show ab;", ""]
        for place in (-1, 0, 3, 12, 18, 21, 22, 32, 33, 34, 35, 99):
            self.refused(texts, place, "n", 0, "declaration", "m", place)
        for place in (19, 20):
            self.assertEqual(self.moved(texts, place, "n", 0)[1], "def ab = 1;")

    def test_scope(self):
        self.refused(["{ def a = 1; } def b = 2;", ""], "a", "n", 0, "scope", "m", 6)
        self.refused(["{ def a = 1; } def b = 2;", ""], 6, "m", 9, "scope", "m", 6)

    def test_list(self):
        self.refused(["def b = 1; end abc", ""], "bc", "n", 0, "list", "m", 16)
        self.refused(["end a", ""], "a", "m", 9, "list", "m", 4)
        self.refused(["end a", ("b", "")], "a", "n", 9, "list", "m", 4)

    def test_target(self):
        self.refused(["def a = 1;", ""], "a", "m", 0, "target")
        self.refused(["def a = 1;", ""], "a", "m", 9, "target")

    def test_language(self):
        # By its name, though it is the same language.
        self.refused(["def a = 1;", ("b", "")], "a", "n", 0, "language")
        self.refused(["def a = 1;", ("b", "")], "a", "n", 9, "language")

    def test_index(self):
        texts = ["def a = 1;", "use 'm'; show 1; show 2;"]
        for index in (-1, 3, 99):
            self.refused(texts, "a", "n", index, "index")
        for index in range(3):
            self.assertEqual(self.moved(texts, "a", "n", index)[0], "")
        self.refused(["def a = 1;", ""], "a", "n", 1, "index")
        # An index beyond the list is told ahead of an element that cannot be taken out.
        self.refused(["$ def a = 1; $", ""], "a", "n", 1, "index")

    def test_taken(self):
        self.refused(["$ def a = 1; $", ""], "a", "n", 0, "taken", "m", 2)

    def test_put(self):
        # Without the semicolon the definition would be another one in another place.
        self.refused(["def a = 1", "show 2"], "a", "n", 0, "put")
        self.refused(["def a = 1;", "show 2; $ show 3;"], "a", "n", 1, "put")

    def test_beyond_the_limits(self):
        """Steps to a text of more than 600 characters, or of more than 200 tokens, cannot be made."""
        for text in ("show " + "a" * 580 + ";", "show " + "1+" * 95 + "1;"):
            self.refused(["def a = 1 + 2 + 3;", text], "a", "n", 0, "put")
        self.assertEqual(len(self.moved(["def a = 1;", "show " + "a" * 580 + ";"], "a", "n", 0)[1]), 596)
        # The import would be too long.
        text = "def a = 1; show a + " + "b" * 579 + ";"
        self.assertTrue(self.moved([text, ""], "a", "n", 0, " ")[0].startswith("use \"n\" ; show a"))
        self.refused([text, ""], "a", "n", 0, "import", "m", 16, "   ")

    def test_put_comes_ahead_of_what_is_needed(self):
        self.language = modules(imports=[])
        texts = ["from o take c, ren d as y; show c;", "$ from o take c;", "def c = 1; def d = 2;"]
        self.refused([texts[0], "", texts[2]], "y", "n", 0, "import", "m", 32)
        self.refused([texts[0], "a" * 600, texts[2]], "y", "n", 0, "put")

    def test_put_in_the_end(self):
        """The declaration is taken out again, as the listed name in its import needs something."""
        self.refused(["from m take ren x as x;", ""], 21, "n", 0, "put")
        # This is asked ahead of what differs.
        self.refused(["from m take ren x as x; var q = 1; show x;", "show x; "], 21, "n", 0, "put")


class PlacesTest(MoveTest):
    def test_the_first_a_middle_and_the_last_element(self):
        items = ["def a = 1;", "def b = 2;", "def c = 3;"]
        for number, name in enumerate("abc"):
            rest = [item for item in items if name not in item]
            found = self.moved([" ".join(items), "show 4; show 5;"], name, "n", 1, " ")
            self.assertEqual(found, [" ".join(rest), f"show 4; {items[number]} show 5;"])

    def test_the_only_one(self):
        self.assertEqual(self.moved(["  def a = 1; ", ""], "a", "n", 0), ["   ", "def a = 1;"])
        self.assertEqual(self.moved([" def a = 1; end q", "end q"], "a", "n", 0), ["  end q", "def a = 1;end q"])

    def test_every_index(self):
        for index, expected in enumerate(("def a = 1; show 2; show 3;", "show 2; def a = 1; show 3;", "show 2; show 3; def a = 1;")):
            self.assertEqual(self.moved(["def a = 1;", "show 2; show 3;"], "a", "n", index, " ")[1], expected)

    def test_blanks(self):
        for blank in ("", " ", "\n", " \n "):
            self.assertEqual(self.moved(["def a = 1;", "show 2;"], "a", "n", 0, blank)[1], f"def a = 1;{blank}show 2;")
            self.assertEqual(self.moved(["def a = 1;", "show 2;"], "a", "n", 1, blank)[1], f"show 2;{blank}def a = 1;")
        # Where nothing else is said, it is empty.
        project = self.project("def a = 1;", "show 2;")
        self.assertEqual(move(project, "m", 4, "n", 0), {"m": ((0, 10, ""),), "n": ((0, 0, "def a = 1;"),)})

    def test_an_import_is_an_element_too(self):
        texts = ["from o take ren c as x; show 1;", "from o take d; show 2;", "def c = 1; def d = 2;"]
        self.assertEqual(self.moved(texts, "x", "n", 1, " ")[:2], [" show 1;", "from o take d; from o take ren c as x; show 2;"])
        self.refused(texts, "x", "n", 2, "index")

    def test_several_declarations_in_an_element(self):
        # What is declared within the scope of the element moves along.
        self.assertEqual(self.moved(["from o take ren c as x, ren d as y; show x + y;", "", "def c = 1; def d = 2;"], "x", "n", 0),
                         ["from n take x,y ; show x + y;", "from o take ren c as x, ren d as y;", "def c = 1; def d = 2;"])


class BagsTest(MoveTest):
    language = BAGS

    def test_the_language(self):
        self.assertEqual((faults(BAGS), check_facts(BAGS)), ([], None))

    def test_with_a_word_between(self):
        found = {name: self.moved(["box def a, def b, def c", "box def d, def e"], name, "n", 1) for name in "abc"
                 for name in [f"{name}, def" if name != "c" else "c"]}
        self.assertEqual(found, {"a, def": ["box def b, def c", "box def d, def a,def e"],
                                 "b, def": ["box def a, def c", "box def d, def b,def e"],
                                 "c": ["box def a, def b", "box def d, def c,def e"]})
        for index, expected in enumerate(("box def a,def d, def e", "box def d, def a,def e", "box def d, def e,def a")):
            self.assertEqual(self.moved(["box def a", "box def d, def e"], "a", "n", index), ["box ", expected])
        self.assertEqual(self.moved(["box def a", "box"], "a", "n", 0), ["box ", "box def a"])

    def test_a_target_without_the_outermost_node(self):
        for text in ("", " ", "def $"):
            self.assertEqual([row for row in self.project(text).tree("m") if row[2] == "node"], [])
            self.refused(["box def a", text], "a", "n", 0, "put")
            self.refused(["box def a", text], "a", "n", 1, "index")

    def test_what_is_skipped_ahead_of_the_outermost_node(self):
        self.assertEqual([row[2] for row in self.project("$ box def a $").tree("m") if row[0] is None], ["skipped", "node"])
        self.assertEqual(self.moved(["box def a", "$ box def d"], "a", "n", 1), ["box ", "$ box def d,def a"])
        self.refused(["$ box def a, def b", "$ box def d"], "a", "n", 2, "index")
        self.assertEqual(self.moved(["$ box def a, def b", "box"], "a", "n", 0), ["$ box def b", "box def a"])

    def test_a_target_without_the_list(self):
        text = "bag own def b def c"
        self.refused(["box def a", text], "a", "n", 0, "put")
        self.refused(["box def a", text], "a", "n", 1, "index")
        self.refused([text, "box"], 12, "n", 0, "put")
        self.assertEqual(self.moved([text, "bag q"], "b def", "n", 0, " "), ["bag own def c", "bag q def b"])

    def test_a_token_of_the_outermost_node(self):
        self.refused(["bag own def b", "bag q"], "own", "n", 0, "list", "m", 4)


class NeedsTest(MoveTest):
    def test_a_reference_in_the_file_itself(self):
        self.assertEqual(self.moved(["def a = 1; show a;", ""], "a", "n", 0, "\n"), ["from n take a ;\nshow a;", "def a = 1;\n"])
        # Without anything behind the place the blank stands there all the same.
        self.assertEqual(self.moved(["def a = 1; show a;", "show 1;"], "a", "n", 1, "\n"),
                         ["from n take a ;\nshow a;", "show 1;\ndef a = 1;"])

    def test_a_reference_that_moves_along(self):
        self.assertEqual(self.moved(["def a = 1; def b = a + a;", ""], "b", "n", 0, " "), ["def a = 1;", "from m take a ; def b = a + a; "])
        # What is declared in the element itself is needed there by nothing.
        self.assertEqual(self.moved(["def a = a + 1;", ""], "a", "n", 0), ["", "def a = a + 1;"])

    def test_both_directions(self):
        self.assertEqual(self.moved(["def a = 1; def b = a; show b;", "show 2;"], "b", "n", 1, " "),
                         ["from n take b ; def a = 1; show b;", "from m take a ; show 2; def b = a;"])

    def test_third_files(self):
        texts = ["def a = 1; show 2;", "show 3;", "from m take a; show a;", "use 'm'; show a;"]
        self.assertEqual(self.moved(texts, "a", "n", 1, " "), [
            "show 2;", "show 3; def a = 1;", "from n take a ;  show a;", "from n take a ; use 'm'; show a;"])

    def test_listed_names_in_the_target(self):
        """What is listed from the file itself is taken out, and not put in again."""
        self.assertEqual(self.moved(["def a = 1;", "from m take a; show a;"], "a", "n", 0), ["", " def a = 1;show a;"])
        self.assertEqual(self.moved(["def a = 1; def b = 2;", "from m take b, a; show a + b;"], "a", "n", 1, " "),
                         ["def b = 2;", "from m take b; show a + b; def a = 1;"])

    def test_the_only_item_of_an_import(self):
        self.assertEqual(self.moved(["def a = 1;", "", "use 'n'; from m take a; show 2;"], "a", "n", 0)[2],
                         "from n take a ;use 'n'; show 2;")
        self.assertEqual(self.moved(["def a = 1; def b = 2;", "", "from m take b, a; show 2;"], "a", "n", 0)[2],
                         "from n take a ;from m take b; show 2;")

    def test_at_the_end_of_a_list_that_is_there(self):
        for there, expected in (("from n take d; ", "from n take d,a; "), ("from n take d, e; ", "from n take d, e,a; "),
                                ("from n take; ", "from n take a; "), ("hand 'n' take d; ", "hand 'n' take d,a; "),
                                ("hand `n` take; ", "hand `n` take a; "), ("hand \"n\" take d, unit u; ", "hand \"n\" take d, unit u,a; ")):
            texts = [there + "def a = 1; show a;", "def d = 2; def e = 3; measure u;"]
            self.assertEqual(self.moved(texts, "a =", "n", 0, " ")[0], expected + "show a;", there)

    def test_the_first_import_of_the_file(self):
        for there, expected in (
                ("from n take d; hand 'n' take e; ", "from n take d,a; hand 'n' take e; "),
                ("hand 'n' take e; from n take d; ", "hand 'n' take e,a; from n take d; "),
                ("from o take x; from n take d; from n take e; ", "from o take x; from n take d,a; from n take e; ")):
            texts = [there + "def a = 1; show a;", "def d = 2; def e = 3;", "def x = 4;"]
            self.assertEqual(self.moved(texts, "a =", "n", 0, " ")[0], expected + "show a;", there)
        # One that brings a file whole has no list.
        self.assertEqual(self.moved(["use 'o'; def a = 1; show a;", "", ""], "a", "n", 0)[0], "from n take a ;use 'o'; show a;")
        self.assertEqual(self.moved(["use 'n'; def a = 1; show a;", ""], "a", "n", 0)[0], "use 'n'; show a;")

    def test_where_the_list_cannot_take_the_item(self):
        """What is skipped behind the last item would stand ahead of the new one; a new import is put in."""
        self.assertEqual(self.moved(["from n take d $ ; def a = 1; show a;", "def d = 2;"], "a =", "n", 0)[0],
                         "from n take a ;from n take d $ ; show a;")

    def test_by_the_first_row_with_which_it_can_be_done(self):
        rows = {"from": IMPORTS[0], "ren": IMPORTS[1], "unit": IMPORTS[2], "hand": IMPORTS[3], "use": IMPORTS[4]}
        for words, expected in (
                (("from", "hand", "use"), "from n take a ;"), (("hand", "from", "use"), "hand \"n\" take a ;"),
                (("use", "from"), "use \"n\" ;"), (("ren", "unit", "use", "from"), "use \"n\" ;"),
                (("ren", "from"), "from n take a ;"), (("unit", "hand"), "hand \"n\" take a ;")):
            self.language = modules(imports=[rows[word] for word in words])
            self.assertEqual(self.moved(["def a = 1; show a;", ""], "a", "n", 0, " ")[0], expected + " show a;", words)
        for words in ((), ("ren",), ("unit",), ("unit", "ren")):
            self.language = modules(imports=[rows[word] for word in words])
            self.refused(["def a = 1; show a;", ""], "a", "n", 0, "import", "m", 16)

    def test_a_row_for_another_list(self):
        # The field of the outermost node, in which such an import cannot stand, and then another row.
        self.language = modules(imports=[("import", "use", "file", "items"), IMPORTS[3]])
        self.assertEqual(self.moved(["def a = 1; show a;", ""], "a", "n", 0, " ")[0], "hand \"n\" take a ; show a;")
        self.language = modules(imports=[("import", "use", "file", "items")])
        self.refused(["def a = 1; show a;", ""], "a", "n", 0, "import", "m", 16)

    def test_a_row_that_cannot_be_written(self):
        """An item that needs another name as well, and an import that needs another token."""
        # The first row that describes the import counts for it; a new import is put in by the next row.
        self.language = modules(imports=[IMPORTS[1], IMPORTS[0]])
        self.assertEqual(self.moved(["from n take d; def a = 1; show a;", "def d = 2;"], "a =", "n", 0, " ")[0],
                         "from n take a ; from n take d; show a;")
        rules = [("node", "use", [*rule[2], ("token", "number", "more")]) if rule[1] == "use" else rule for rule in RULES]
        self.language = modules(rules=rules, imports=[IMPORTS[4], IMPORTS[3]])
        self.assertEqual(self.moved(["def a = 1; show a;", ""], "a", "n", 0, " ")[0], "hand \"n\" take a ; show a;")
        self.language = modules(rules=rules, imports=[IMPORTS[4]])
        self.refused(["def a = 1; show a;", ""], "a", "n", 0, "import", "m", 16)

    def test_a_name_that_the_outermost_node_lists(self):
        language = Language({
            "tokens": TOKENS, "start": "file", "spaces": ["v"],
            "rules": [("node", "file", [("maybe", "from", "from"), ("many", "def", "defs")]),
                      ("node", "from", [("word", "from"), ("token", "word", "file"), ("many", "name", "names")]),
                      ("node", "name", [("word", "!"), ("token", "word", "name")]),
                      ("node", "def", [("word", "def"), ("token", "word", "name")])],
            "names": [("declares", "def", "name", "v", "gives"), ("brings", "from", "file"), ("lists", "name", "name", "v")],
            "imports": [("import", "from", "file", "defs", "names", "name", "name")]})
        self.assertEqual((faults(language), check_facts(language), check_imports(language)), ([], None, None))
        self.language = language
        # The item can be taken out of its list, but the import that has nothing else is in none.
        self.refused(["def a", "", "from m ! a"], "a", "n", 0, "import", "o", 9)
        # An import of the other file cannot be put in, as it does not fit the list.
        self.refused(["def a def b", "", "from m ! b ! a"], "a", "n", 0, "import", "o", 13)
        self.assertEqual(self.moved(["def a def b", "from m ! b ! a"], "a", "n", 0, " "), ["def b", "from m ! b def a"])
        whole = Language({
            "tokens": TOKENS, "start": "file", "spaces": ["v"],
            "rules": [("node", "file", [("maybe", "from", "from"), ("many", "def", "defs")]),
                      ("node", "from", [("word", "from"), ("token", "word", "file"), ("token", "word", "name")]),
                      ("node", "def", [("word", "def"), ("token", "word", "name")])],
            "names": [("declares", "def", "name", "v", "gives"), ("brings", "from", "file"), ("lists", "from", "name", "v")]})
        self.language = whole
        self.refused(["def a", "", "from m a"], "a", "n", 0, "import", "o", 7)
        start = Language({
            "tokens": TOKENS, "start": "start", "spaces": ["v"],
            "rules": [("choice", "start", ["defs", "from"]), ("node", "defs", [("word", "defs"), ("many", "def", "defs")]),
                      ("node", "from", [("word", "from"), ("token", "word", "file"), ("token", "word", "name")]),
                      ("node", "def", [("word", "def"), ("token", "word", "name")])],
            "names": [("declares", "def", "name", "v", "gives"), ("brings", "from", "file"), ("lists", "from", "name", "v")]})
        self.assertEqual((faults(start), check_facts(start)), ([], None))
        self.language = start
        self.refused(["defs def a", "defs", "from m a"], 9, "n", 0, "import", "o", 7)

    def test_units(self):
        texts = ["{} measure a; show in a + in a;", "measure b;", "hand 'm' take unit a; show in a;"]
        for there, expected in (("", "hand \"n\" take unit a ; "), ("from n take unit b;", "hand \"n\" take unit a ; from n take unit b;"),
                                ("hand 'n' take unit b;", "hand 'n' take unit b,unit a;")):
            found = self.moved([texts[0].format(there), *texts[1:]], "a; show", "n", 0, " ")
            self.assertEqual(found[0].replace("  ", " "), (expected + " show in a + in a;").replace("  ", " "), there)
            self.assertEqual(found[2], "hand \"n\" take unit a ;  show in a;")

    def test_listed_names_with_another_name(self):
        texts = ["def a = 1;", "show 2;", "from m take ren a as x; show x;"]
        self.assertEqual(self.moved(texts, "a", "n", 0)[2], "from n take ren a as x ; show x;")
        texts[2] = "hand 'n' take c; from n take d; from m take ren a as x, b; show x;"
        self.assertEqual(self.moved(texts, "a", "n", 0)[2],
                         "hand 'n' take c; from n take d,ren a as x; from m take b; show x;")
        # No row has this item: it is none as a row of imports says.
        self.language = modules(imports=IMPORTS[:1] + IMPORTS[2:])
        self.refused(texts, "a", "n", 0, "import", "o", 48)
        # A row for "hand" alone: the item is one, but not of this import.
        self.language = modules(imports=[("import", "hand", "file", "bringers", "picks", "other", "name")])
        self.refused(texts, "a", "n", 0, "import", "o", 48)

    def test_an_item_that_goes_to_another_sort_of_import(self):
        self.language = modules(imports=[("import", "hand", "file", "bringers", "picks", "other", "name"), IMPORTS[1]])
        texts = ["def a = 1;", "show 2;", "from m take ren a as x; show x;"]
        self.assertEqual(self.moved(texts, "a", "n", 0)[2], "hand \"n\" take ren a as x ; show x;")

    def test_quotes(self):
        for pattern, expected in (("'[a-z]*'", "use 'n' ;"), ("`[a-z]*`", "use `n` ;"), ("\"[a-z]*\"|'[a-z]*'", "use \"n\" ;"),
                                  ("`[a-z]*`|'[a-z]*'", "use 'n' ;")):
            tokens = [("quote", pattern) if rule[0] == "quote" else rule for rule in MODULE_TOKENS]
            self.language = modules(imports=[IMPORTS[4]], tokens=tokens)
            self.assertEqual(self.moved(["def a = 1; show a;", ""], "a", "n", 0, " ")[0], expected + " show a;")
        self.language = modules(imports=[IMPORTS[4]], tokens=[("quote", "![a-z]*!") if rule[0] == "quote" else rule
                                                              for rule in MODULE_TOKENS])
        self.refused(["def a = 1; show a;", ""], "a", "n", 0, "import", "m", 16)

    def test_a_file_that_is_named_without_quotes(self):
        self.assertEqual(self.moved(["def a = 1; show a;", ""], "a", "n", 0)[0], "from n take a ;show a;")
        # The name of a file that is a word of the language cannot be written so.
        project = Project({"a": MODULES}, {"m": ("a", "def a = 1; show a;"), "show": ("a", "")})
        changes = move(project, "m", 4, "show", 0)
        self.assertEqual(apply_change(project.text("m"), changes["m"]), "hand \"show\" take a ;show a;")

    def test_names_that_are_needed_twice(self):
        self.assertEqual(self.moved(["def a = 1; show a; { show a + a; }", ""], "a", "n", 0)[0],
                         "from n take a ;show a; { show a + a; }")
        self.assertEqual(self.moved(["def a = 1; show call a [a];", "", "use 'm'; show a * a;"], "a", "n", 0),
                         ["from n take a ;show call a [a];", "def a = 1;", "from n take a ;use 'm'; show a * a;"])

    def test_listed_names_come_first(self):
        """The listed name is brought again, and then the reference of the same file leads alike already."""
        texts = ["def a = 1;", "", "from m take a; show a;", "from o take a; show a;"]
        self.assertEqual(self.moved(texts, "a", "n", 0)[2], "from n take a ; show a;")
        texts = ["def a = 1; def b = a;", "", "hand 'm' take a;", "use 'o'; show a;"]
        self.assertEqual(self.moved(texts, "a", "n", 0)[2:], ["from n take a ;", "from n take a ;use 'o'; show a;"])

    def test_the_places_are_those_of_the_old_project(self):
        self.language = modules(imports=[])
        self.refused(["def abc = 1;   show abc;", ""], "abc", "n", 0, "import", "m", 20)
        self.refused(["def a = 1; show a;", "show 1;", "from m take a; show a;"], "a", "n", 0, "import", "o", 12)
        # A reference that has moved along is told with where it stood.
        self.refused(["def b = 2; def a = b;", "show 1;"], "a", "n", 1, "import", "m", 19)

    def test_what_gets_nothing(self):
        # Not given out.
        self.differs(["var b = 1; show b;", ""], "b", "n", 0, ("m", 5, 6), (("m", 4, 5),), ())
        self.differs(["var b = 1; def a = b;", ""], "a =", "n", 0, ("n", 8, 9), (("m", 4, 5),), ())
        # Declared in another scope than that of its file, or leading to several.
        self.differs(["def q = 1; show q;", "def q = 2;", "use 'n'; use 'm'; show q;"], "q", "n", 0,
                     ("m", 20, 21), (("m", 4, 5),), (("n", 4, 5), ("n", 14, 15)))

    def test_what_differs_otherwise(self):
        # The name means something else in the target.
        self.differs(["def a = 1; def b = a;", "var a = 2;"], "b", "n", 0,
                     ("n", 23, 24), (("m", 4, 5),), (("n", 29, 30),))
        # Two declarations in one scope.
        self.differs(["def a = 1;", "def a = 2; show a;"], "a", "n", 0, ("n", 4, 5), (("m", 4, 5),), (("n", 4, 5), ("n", 14, 15)))
        # The first one by file and position.
        self.differs(["var b = 1; show b; show b;", "show b;"], "b", "n", 0, ("m", 5, 6), (("m", 4, 5),), ())

    def test_a_name_that_led_nowhere(self):
        self.differs(["def a = 1; show 1;", "show 2; show a;"], "a", "n", 0, ("n", 23, 24), (), (("n", 4, 5),))

    def test_an_import_that_makes_others_differ(self):
        # The new import hides what was brought whole; such occurrences get nothing.
        texts = ["def a = 1; { def a = 2; show a; } show a;", "show 1;", "use 'm'; show a;"]
        self.assertEqual(self.moved(texts, "a", "n", 0)[0], "from n take a ;{ def a = 2; show a; } show a;")
        texts = ["use 'o'; def a = 1; { late c = 1; } show a;", "show 1;", "def c = 2;"]
        self.assertEqual(self.moved(texts, "a", "n", 0)[0], "from n take a ;use 'o'; { late c = 1; } show a;")

    def test_a_name_of_another_language_is_brought_by_its_own_rows(self):
        self.language = modules()
        other = modules(imports=[IMPORTS[4]])
        project = Project({"a": MODULES, "b": other}, {"m": ("a", "def a = 1;"), "n": ("a", ""), "o": ("b", "use 'm'; show a;")})
        changes = move(project, "m", 4, "n", 0)
        self.assertEqual(apply_change(project.text("o"), changes["o"]), "use \"n\" ;use 'm'; show a;")


class ComparedTest(unittest.TestCase):
    """Everything is compared with another way to it, over random projects."""

    def test_random_projects(self):
        met = {}
        for seed in range(70):
            rng = random.Random(seed)
            texts = modules_files(rng)
            if seed < 10:
                texts = {file: modules_text(rng, MODULES, rng.choice((0, 40, 70))) for file in "mno"}
            try:
                project = Project({"a": MODULES, "b": MODULES}, {file: (rng.choice("aaaaaaaaab"), text)
                                                                 for file, text in texts.items()})
            except (TooLong, TooDeep):
                continue
            for _ in range(4):
                file, blank = rng.choice(project.file_names()), rng.choice(("", " ", "\n"))
                tree = project.tree(file)
                places = [row[4] for row in tree if row[1] == "name" and row[0] and tree[row[0]][3] in ("def", "late", "var", "measure")]
                place = rng.choice(places) if places and rng.random() < 0.9 else rng.randint(-1, 20)
                arguments = (file, place, rng.choice(project.file_names()), rng.randint(-1, 3))
                found = told(move, project, *arguments, blank=blank)
                self.assertEqual(found, slow_told(project, "move", *arguments, blank), (seed, arguments))
                word = "changes" if isinstance(found, dict) else found[0] if found[0] != "Refused" else found[1]
                met[word] = met.get(word, 0) + 1
        for word in ("changes", "Differs", "declaration", "scope", "target", "language", "index"):
            self.assertIn(word, met)
        self.assertGreater(met["changes"], 10, met)


if __name__ == "__main__":
    unittest.main()
