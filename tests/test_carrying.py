"""Tokens that come from others ([J1] to [J3])."""

import random
import unittest

from tongues.carrying import carried_tokens, differing, parser_tokens
from tongues.projects import Project
from tongues.texts import apply_change
from tests.naming import PRIVATE, naming
from tests.raising import raised
from tests.randomtexts import naming_text
from tests.slownames import Slow
from tongues.tokens import tokens

OPEN, HIDDEN = naming(), naming(PRIVATE)


def project_of(*texts):
    return Project({"open": OPEN, "hidden": HIDDEN}, {"mno"[number]: ("open", text) for number, text in enumerate(texts)})


def carried(texts, changes):
    """What is carried by changes of files m, n, .., without the files where there is but one."""
    before = project_of(*texts)
    after = before.with_texts({file: apply_change(before.text(file), change) for file, change in changes.items()})
    return carried_tokens(before, after, changes)


def shortly(pairs):
    return [(old[1:], new[1:]) for old, new in pairs]


class TokensTest(unittest.TestCase):
    def test_in_order(self):
        self.assertEqual(parser_tokens(project_of("", " var\nab ;"), "n"), [("n", 1, 4), ("n", 5, 7), ("n", 8, 9)])
        self.assertEqual(parser_tokens(project_of("", " "), "m"), [])
        self.assertEqual(parser_tokens(project_of("", " "), "n"), [])

    def test_broken_files(self):
        """Tokens that the tree skips are among them, stray ones too."""
        self.assertEqual(parser_tokens(project_of("$ var 12a $"), "m"),
                         [("m", 0, 1), ("m", 2, 5), ("m", 6, 8), ("m", 8, 9), ("m", 10, 11)])

    def test_the_error(self):
        self.assertEqual(raised(parser_tokens, project_of(""), "n"), ("NoFile", {"name": "n"}))


class CarriedTest(unittest.TestCase):
    def test_without_changes(self):
        for changes in ({}, {"m": ()}):
            self.assertEqual(carried(["var a;", "var b"], changes), [
                (token, token) for token in (("m", 0, 3), ("m", 4, 5), ("m", 5, 6), ("n", 0, 3), ("n", 4, 5))])

    def test_tokens_around_a_piece(self):
        # var ab; -> var xab; -> the name is another token then.
        self.assertEqual(shortly(carried(["var ab;"], {"m": ((4, 4, "x"),)})), [((0, 3), (0, 3)), ((6, 7), (7, 8))])
        self.assertEqual(shortly(carried(["var ab;"], {"m": ((6, 6, "x"),)})), [((0, 3), (0, 3)), ((6, 7), (7, 8))])
        self.assertEqual(shortly(carried(["var ab;"], {"m": ((4, 6, "c d"),)})), [((0, 3), (0, 3)), ((6, 7), (7, 8))])
        # A piece that puts what it replaces keeps nothing.
        self.assertEqual(shortly(carried(["var ab;"], {"m": [[4, 6, "ab"]]})), [((0, 3), (0, 3)), ((6, 7), (6, 7))])

    def test_tokens_that_touch_a_piece_are_carried(self):
        self.assertEqual(shortly(carried(["var ab;"], {"m": ((6, 7, " ; ;"),)})), [((0, 3), (0, 3)), ((4, 6), (4, 6))])
        self.assertEqual(shortly(carried(["a;b"], {"m": ((1, 2, " "),)})), [((0, 1), (0, 1)), ((2, 3), (2, 3))])
        # The first character is kept, and the rest is put anew.
        self.assertEqual(shortly(carried(["var ab;"], {"m": ((5, 6, "b"),)})),
                         [((0, 3), (0, 3)), ((4, 6), (4, 6)), ((6, 7), (6, 7))])
        self.assertEqual(shortly(carried(["var ab;"], {"m": ((5, 6, "bc"),)})), [((0, 3), (0, 3)), ((6, 7), (7, 8))])
        self.assertEqual(shortly(carried(["var ab;"], {"m": ((4, 5, "a"),)})), [((0, 3), (0, 3)), ((6, 7), (6, 7))])

    def test_a_token_that_begins_where_another_one_began(self):
        # "1a" are two tokens; without the 1 the a begins elsewhere, and is carried.
        self.assertEqual(shortly(carried(["1a"], {"m": ((0, 1, ""),)})), [((1, 2), (0, 1))])
        # What was a token is a part of one.
        self.assertEqual(shortly(carried(["a 1 b"], {"m": ((1, 4, ""),)})), [])

    def test_tokens_that_are_read_otherwise(self):
        # The same text as another kind of token: within quotes it is no token.
        self.assertEqual(shortly(carried(["a b"], {"m": ((2, 2, "'"), (3, 3, "'"))})), [((0, 1), (0, 1))])
        # "~" is an operator or skipped; it is the same token all the same.
        self.assertEqual(shortly(carried(["show ~ 1;"], {"m": ((0, 4, ""),)})), [
            ((5, 6), (1, 2)), ((7, 8), (3, 4)), ((8, 9), (4, 5))])

    def test_several_files(self):
        pairs = carried(["var a;", "show a;", "var b;"], {"o": ((0, 0, "show 1; "),), "m": ((4, 5, "b"),)})
        self.assertEqual(pairs, [
            (("m", 0, 3), ("m", 0, 3)), (("m", 5, 6), ("m", 5, 6)), (("n", 0, 4), ("n", 0, 4)), (("n", 5, 6), ("n", 5, 6)),
            (("n", 6, 7), ("n", 6, 7)), (("o", 0, 3), ("o", 8, 11)), (("o", 4, 5), ("o", 12, 13)),
            (("o", 5, 6), ("o", 13, 14))])

    def test_broken_files(self):
        self.assertEqual(shortly(carried(["$ var a"], {"m": ((0, 2, ""),)})), [((2, 5), (0, 3)), ((6, 7), (4, 5))])


class DifferingTest(unittest.TestCase):
    def check(self, before, after, changes, expected, leave=(), more=()):
        """What differs, with the pairs of some old tokens left out and some more."""
        old, new = project_of(*before), project_of(*after)
        pairs = [pair for pair in carried_tokens(old, new, changes) if pair[0] not in leave] + list(more)
        self.assertEqual(differing(old, new, pairs), expected)
        self.assertEqual(differing(old, new, tuple(reversed(pairs))), expected)

    def test_alike(self):
        self.check(["var a; show a;"], ["var a; show a;"], {}, None)
        self.check(["var a; show a;"], [" var a; { show a; }"], {"m": ((0, 0, " "), (7, 7, "{ "), (14, 14, " }"))}, None)
        self.check([""], [""], {}, None)

    def test_leads_elsewhere(self):
        self.check(["var a; { show a; }"], ["var a; { var a; show a; }"], {"m": ((9, 9, "var a; "),)},
                   (("m", 21, 22), (("m", 4, 5),), (("m", 13, 14),)))

    def test_leads_nowhere_and_to_more(self):
        self.check(["var a; show a;"], ["show a;"], {"m": ((0, 7, ""),)}, (("m", 5, 6), (("m", 4, 5),), ()))
        self.check(["show a;"], ["show a; var a;"], {"m": ((7, 7, " var a;"),)}, (("m", 5, 6), (), (("m", 12, 13),)))
        self.check(["var a;"], ["var a; var a;"], {"m": ((6, 6, " var a;"),)},
                   (("m", 4, 5), (("m", 4, 5),), (("m", 4, 5), ("m", 11, 12))))
        self.check(["var a; var a;"], ["var a;"], {"m": ((6, 13, ""),)},
                   (("m", 4, 5), (("m", 4, 5), ("m", 11, 12)), (("m", 4, 5),)))

    def test_pairs_left_out(self):
        text = ["var a; show a;"]
        self.check(text, text, {}, (("m", 12, 13), (("m", 4, 5),), (("m", 4, 5),)), leave=[("m", 4, 5)])
        self.check(text, text, {}, None, leave=[("m", 12, 13)])
        self.check(text, text, {}, None, leave=[("m", 4, 5), ("m", 12, 13)])

    def test_a_new_token_that_comes_from_no_old_one(self):
        self.check(["var a;"], ["var a; show a; show b;"], {"m": ((6, 6, " show a; show b;"),)}, None)

    def test_old_tokens_that_are_no_occurrences(self):
        # A token that was skipped, or a word, led to nothing.
        self.check(["var a; a"], ["var a; show a"], {"m": ((7, 7, "show "),)}, (("m", 12, 13), (), (("m", 4, 5),)))
        self.check(["b"], ["show b"], {"m": ((0, 0, "show "),)}, None)
        self.check(["var a;"], ["var a;"], {}, (("m", 4, 5), (), (("m", 4, 5),)),
                   leave=[("m", 0, 3), ("m", 4, 5)], more=[(("m", 0, 3), ("m", 4, 5))])
        # A new token that is none is not looked at.
        self.check(["var a; show a;"], ["var a; a;"], {"m": ((7, 12, ""),)}, None)

    def test_a_token_that_comes_from_another_one(self):
        text = ["var a; var b; show a;"]
        self.check(text, text, {}, (("m", 19, 20), (("m", 4, 5),), (("m", 4, 5),)),
                   leave=[("m", 4, 5), ("m", 11, 12)], more=[(("m", 11, 12), ("m", 4, 5)), (("m", 4, 5), ("m", 11, 12))])

    def test_an_old_token_with_two_new_ones(self):
        before, after = ["var a; show a;"], ["var a; { var a; show a; } show a;"]
        first, shown = ("m", 4, 5), ("m", 12, 13)
        pairs = [(first, ("m", 4, 5)), (first, ("m", 13, 14)), (shown, ("m", 21, 22)), (shown, ("m", 31, 32))]
        self.assertIsNone(differing(project_of(*before), project_of(*after), pairs))
        # Each one has to lead to something that comes from the old declaration.
        self.assertEqual(differing(project_of(*before), project_of(*after), pairs[:1] + pairs[2:]),
                         (("m", 21, 22), (first,), (("m", 13, 14),)))

    def test_the_first_of_several(self):
        self.check(["show b;", "var a; show a; show a;"], ["show b;", "show a; show a;"], {"n": ((0, 7, ""),)},
                   (("n", 5, 6), (("n", 4, 5),), ()))
        self.check(["take o: a; show a;", "show b;", "var a;"], ["take o: a; show a;", "show b; var b;", ""],
                   {"o": ((0, 6, ""),), "n": ((7, 7, " var b;"),)}, (("m", 8, 9), (("o", 4, 5),), ()))

    def test_over_several_files(self):
        self.check(["pull 'n'; show a;", "var a;"], ["pull 'n'; show a;", "let a = 1;"], {"n": ((0, 6, "let a = 1;"),)},
                   (("m", 15, 16), (("n", 4, 5),), (("n", 4, 5),)))
        self.check(["pull 'n'; show a;", "var a;"], ["pull 'n'; show a;", "let a = 1;"],
                   {"n": ((0, 3, "let"), (5, 5, " = 1"))}, None)


class ComparedTest(unittest.TestCase):
    """Random changes of random projects; what is carried and differs is worked out in another way."""

    def slow_pairs(self, before, after, changes):
        pairs = []
        for file in before.file_names():
            kept, shift, place = {}, 0, 0
            for start, stop, put in list(changes.get(file, ())) + [(len(before.text(file)),) * 2 + ("",)]:
                kept.update({number: number + shift for number in range(place, start)})
                shift += len(put) - (stop - start)
                place = stop
            text = after.text(file)
            new = {token[1]: token for token in tokens(after.language(file).lexer, text) if token[0] != ("rule", "blank")}
            for kind, start, stop, _, _ in tokens(before.language(file).lexer, before.text(file)):
                found = new.get(kept.get(start))
                if kind != ("rule", "blank") and found and text[found[1]:found[2]] == before.text(file)[start:stop]:
                    pairs.append(((file, start, stop), (file, found[1], found[2])))
        return pairs

    def slow_differing(self, before, after, pairs):
        old, new = Slow(before), Slow(after)

        def leads(slow, token):
            rows = [row for row in slow.occurrences(token[0]) if slow.row(token[0], row)[4] == token[1]]
            return None if not rows else [(file, *slow.row(file, row)[4:]) for file, row in slow.leads(token[0], rows[0])[1]]

        for token in sorted(new for _, new in pairs):
            origin = [first for first, second in pairs if second == token][0]
            found = leads(new, token)
            if found is not None:
                led = leads(old, origin) or []
                origins = [[first for first, second in pairs if second == one] for one in found]
                if any(not some or some[0] not in led for some in origins) or any([one] not in origins for one in led):
                    return token, tuple(led), tuple(found)
        return None

    def test_random_changes(self):
        met = {"alike": 0, "differing": 0}
        for seed in range(100):
            rng = random.Random(seed)
            files = {file: ("open", naming_text(rng, OPEN, rng.choice((10, 40, 70)))) for file in "mno"[:rng.randint(1, 3)]}
            before = Project({"open": OPEN}, files)
            changes = {}
            for file in before.file_names():
                text, pieces, place = before.text(file), [], -1
                while rng.random() < 0.6 and place < len(text):
                    start = rng.randint(place + 1, len(text))
                    stop = min(len(text), start + rng.choice((0, 0, 1, 3)))
                    put = rng.choice(("", "m", "var n; ", "var m; var o; ", "; var p; "))
                    if start < stop or put:
                        pieces.append((start, stop, put))
                        place = stop
                changes[file] = tuple(pieces)
            after = before.with_texts({file: apply_change(before.text(file), changes[file]) for file in changes})
            pairs = carried_tokens(before, after, changes)
            self.assertEqual(pairs, self.slow_pairs(before, after, changes))
            found = differing(before, after, pairs)
            self.assertEqual(found, self.slow_differing(before, after, pairs))
            met["alike" if found is None else "differing"] += 1
        self.assertTrue(all(number > 5 for number in met.values()), met)


if __name__ == "__main__":
    unittest.main()
