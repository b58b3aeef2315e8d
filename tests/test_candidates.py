"""Projects that are changed step by step, with the old tokens carried along ([K4] to [K6])."""

import unittest

from tongues.candidates import Candidate, Differs, checked_candidate, copied_tokens
from tongues.projects import Project
from tests.modules import modules
from tests.raising import raised

MODULES = modules()


def candidate_of(*texts):
    return Candidate(Project({"a": MODULES}, {"mno"[number]: ("a", text) for number, text in enumerate(texts)}))


def row_of(candidate, file, name, number=0):
    return [row for row, one in enumerate(candidate.present().tree(file)) if one[2:4] == ("node", name)][number]


class StepsTest(unittest.TestCase):
    def test_at_first(self):
        candidate = candidate_of("show a;", "")
        self.assertEqual(candidate.present(), candidate.old)
        self.assertEqual(candidate.carried(), [(token, token) for token in (("m", 0, 4), ("m", 5, 6), ("m", 6, 7))])
        self.assertEqual((candidate.differing(), candidate.finished()), ([], {}))

    def test_tokens_that_are_carried_through_several_steps(self):
        candidate = candidate_of("show a; show b; show c;")
        first, last = ("m", 5, 6), ("m", 21, 22)
        self.assertTrue(candidate.try_removing("m", row_of(candidate, "m", "show", 1)))
        self.assertEqual(candidate.present().text("m"), "show a; show c;")
        self.assertEqual((candidate.places_of(first), candidate.places_of(("m", 13, 14)), candidate.places_of(last)),
                         ([first], [], [("m", 13, 14)]))
        at = candidate.try_inserting("m", (0, "items", 0), "show d;", (), " ")
        self.assertEqual((at, candidate.present().text("m")), (0, "show d; show a; show c;"))
        self.assertEqual((candidate.places_of(first), candidate.places_of(last)), ([("m", 13, 14)], [last]))
        # The character that was replaced is lost, though the same one stands there again.
        self.assertTrue(candidate.try_replacing("m", row_of(candidate, "m", "name", 1), "a", ()))
        self.assertEqual((candidate.places_of(first), candidate.places_of(last)), ([], [last]))
        self.assertEqual(candidate.finished(), {"m": ((0, 0, "show d; "), (5, 6, "a"), (8, 16, ""))})

    def test_a_token_of_another_text(self):
        candidate = candidate_of("show a;", "show a;")
        self.assertTrue(candidate.try_replacing("m", row_of(candidate, "m", "name"), "b", [(0, ("n", 5, 6))]))
        self.assertEqual(candidate.places_of(("n", 5, 6)), [("n", 5, 6)])
        self.assertTrue(candidate.try_replacing("m", row_of(candidate, "m", "name"), "a", [(0, ("n", 5, 6))]))
        self.assertEqual(candidate.places_of(("n", 5, 6)), [("m", 5, 6), ("n", 5, 6)])

    def test_copies(self):
        candidate = candidate_of("show a + 1; show c * 2; show d;")
        copied = copied_tokens(candidate.old, "m", 5, 10)
        self.assertEqual(copied, [(0, ("m", 5, 6)), (2, ("m", 7, 8)), (4, ("m", 9, 10))])
        # Behind the bracket that is put in with it.
        self.assertTrue(candidate.try_replacing("m", row_of(candidate, "m", "name", 1), "a + 1", copied))
        self.assertEqual(candidate.present().text("m"), "show a + 1; show (a + 1) * 2; show d;")
        self.assertEqual(candidate.places_of(("m", 5, 6)), [("m", 5, 6), ("m", 18, 19)])
        self.assertTrue(candidate.try_replacing("m", row_of(candidate, "m", "name", 2), "a + 1", copied))
        self.assertEqual(candidate.places_of(("m", 9, 10)), [("m", 9, 10), ("m", 22, 23), ("m", 39, 40)])
        # And lost again.
        self.assertTrue(candidate.try_removing("m", row_of(candidate, "m", "show", 1)))
        self.assertEqual(candidate.places_of(("m", 9, 10)), [("m", 9, 10), ("m", 21, 22)])
        self.assertTrue(candidate.try_replacing("m", row_of(candidate, "m", "number"), "3", ()))
        self.assertEqual(candidate.places_of(("m", 9, 10)), [("m", 21, 22)])

    def test_places_are_told_in_ascending_order(self):
        candidate = candidate_of("show d; show a;", "show b;")
        copied = copied_tokens(candidate.old, "m", 13, 14)
        self.assertTrue(candidate.try_replacing("n", row_of(candidate, "n", "name"), "a", copied))
        self.assertTrue(candidate.try_replacing("m", row_of(candidate, "m", "name"), "a", copied))
        self.assertEqual(candidate.places_of(("m", 13, 14)), [("m", 5, 6), ("m", 13, 14), ("n", 5, 6)])

    def test_copies_behind_a_gap(self):
        # Ahead of an expression, and of one in brackets, whose place is behind the bracket.
        candidate = candidate_of("show(1); show a + 2;")
        copied = copied_tokens(candidate.old, "m", 14, 19)
        self.assertTrue(candidate.try_replacing("m", row_of(candidate, "m", "sum"), "a + 2", copied))
        self.assertEqual(candidate.present().text("m"), "show a + 2; show a + 2;")
        self.assertEqual(candidate.places_of(("m", 14, 15)), [("m", 5, 6), ("m", 17, 18)])
        self.assertEqual(candidate.places_of(("m", 18, 19)), [("m", 9, 10), ("m", 21, 22)])
        # Ahead of an element behind the last one, and of one in an empty list, but not of the first one.
        candidate = candidate_of("show call f [1]; end a", "from m take;")
        copied = copied_tokens(candidate.old, "m", 21, 22)
        tree = candidate.present().tree("n")
        source = [row for row, one in enumerate(tree) if one[3] == "from"][0]
        self.assertEqual(candidate.try_inserting("n", (source, "picks", 0), "a", copied, ""), 12)
        self.assertEqual(candidate.present().text("n"), "from m take a;")
        self.assertEqual(candidate.places_of(("m", 21, 22)), [("m", 21, 22), ("n", 12, 13)])
        self.assertEqual(candidate.try_inserting("n", (source, "picks", 1), "ren a as q", [(4, ("m", 21, 22))], ""), 14)
        self.assertEqual(candidate.present().text("n"), "from m take a,ren a as q;")
        self.assertEqual(candidate.places_of(("m", 21, 22)), [("m", 21, 22), ("n", 12, 13), ("n", 18, 19)])
        self.assertEqual(candidate.try_inserting("n", (source, "picks", 0), "b", (), " "), 12)
        self.assertEqual(candidate.places_of(("m", 21, 22)), [("m", 21, 22), ("n", 15, 16), ("n", 21, 22)])

    def test_steps_that_cannot_be_made(self):
        candidate = candidate_of("show a; $")
        before = candidate.present()
        for row in (-1, 0, 2, 99):
            self.assertFalse(candidate.try_removing("m", row))
            self.assertIsNone(candidate.try_inserting("m", (row, "nothing", 0), "show b;", (), ""))
        for text in ("+", "", "show", "1 2"):
            self.assertFalse(candidate.try_replacing("m", row_of(candidate, "m", "name"), text, ()))
        for index in (-1, 2, 9):
            self.assertIsNone(candidate.try_inserting("m", (0, "items", index), "show b;", (), ""))
        self.assertIsNone(candidate.try_inserting("m", (0, "items", 0), "show b", (), ""))
        self.assertEqual((candidate.present(), candidate.finished()), (before, {}))

    def test_beyond_the_limits(self):
        text = "show a; show " + "b" * 580 + ";"
        candidate = candidate_of(text)
        self.assertFalse(candidate.try_replacing("m", row_of(candidate, "m", "name"), "c" * 20, ()))
        self.assertFalse(candidate.try_replacing("m", row_of(candidate, "m", "name"), "c" * 601, ()))
        self.assertIsNone(candidate.try_inserting("m", (0, "items", 1), "show 1;", (), ""))
        deep = "(" * 12 + "a" + ")" * 12
        candidate = candidate_of(f"show {'(' * 6}b{')' * 6}; show {deep}; show c;")
        row = [row for row, one in enumerate(candidate.present().tree("m")) if one[3] == "name"][0]
        for more in ("(" * 20 + "a" + ")" * 20, "~ " * 99 + "a"):
            self.assertFalse(candidate.try_replacing("m", row, more, ()))
        candidate = candidate_of("show a" + " + 1" * 96 + ";")
        self.assertFalse(candidate.try_replacing("m", row_of(candidate, "m", "name"), "2 * 3 * 4 * 5", ()))
        self.assertEqual(candidate.finished(), {})

    def test_differs(self):
        candidate = candidate_of("show b; show a; def b = 2; def a = 1;", "use 'm'; show a; show b;")
        self.assertTrue(candidate.try_removing("m", row_of(candidate, "m", "def", 1)))
        first = ((("m", 13, 14), ("m", 13, 14), (("m", 31, 32),), ()))
        self.assertEqual(candidate.differing(), [first, (("n", 14, 15), ("n", 14, 15), (("m", 31, 32),), ())])
        # The first one, with its new place, the old declarations and the new ones.
        self.assertTrue(candidate.try_inserting("m", (0, "items", 0), "def a = 3;", (), " ") is not None)
        self.assertEqual(raised(candidate.finished), (
            "Differs", {"occurrence": ("m", 24, 25), "led": (("m", 31, 32),), "leads": (("m", 4, 5),)}))
        with self.assertRaises(Differs):
            candidate.finished()

    def test_a_change_and_back(self):
        candidate = candidate_of("show a; show b;")
        self.assertTrue(candidate.try_inserting("m", (0, "items", 1), "show c;", (), " ") is not None)
        self.assertTrue(candidate.try_removing("m", row_of(candidate, "m", "show", 1)))
        self.assertEqual((candidate.present().text("m"), candidate.finished()), ("show a; show b;", {}))

    def test_wrong_languages(self):
        project = Project({"a": modules(definitions=[()]), "b": modules(imports=[()])}, {})
        self.assertEqual(raised(checked_candidate, project), ("BadDefinition", {"number": 0, "reason": "length"}))


if __name__ == "__main__":
    unittest.main()
