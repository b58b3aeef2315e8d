"""Winners and lookahead ([B13] to [B15])."""

import itertools
import random
import unittest

from tongues.automata import matches
from tongues.errors import BadLexer, TooManyStates
from tongues.patterns import read_pattern, write_pattern
from tongues.tokens import Lexer, tokens
from tongues.winners import lookahead, winners
from tests.test_tokens import LET, rule


def lexer_of(*patterns, words=()):
    names = "abcdefghij"
    return Lexer((), words, [rule(names[number], pattern) for number, pattern in enumerate(patterns)])


class StatesTest(unittest.TestCase):
    def many(self, size, mode="main"):
        """Rules with so many states together, the beginning among them."""
        letters = "abcdefghi"
        return [rule(mode[0] + letter, letter * min(60, size - 1 - 60 * number), mode)
                for number, letter in enumerate(letters) if size - 1 > 60 * number]

    def test_the_number_of_states(self):
        lexer = Lexer((), (), self.many(200))
        self.assertEqual(len(lexer.automaton("main").states(200)), 200)
        self.assertEqual(len(winners(lexer)), 4)
        self.assertEqual(lookahead(lexer), (("main", 59),))

    def test_one_state_too_many(self):
        lexer = Lexer((), (), self.many(201))
        for function in (winners, lookahead):
            with self.assertRaises(TooManyStates) as caught:
                function(lexer)
            self.assertEqual(caught.exception.mode, "main")

    def test_the_first_mode_with_too_many(self):
        for sizes, mode in (((200, 201, 200), "one"), ((200, 201, 201), "one"), ((200, 200, 201), "two"),
                            ((201, 201, 200), "main")):
            modes = ("main", "one", "two")
            rules = [one for name, size in zip(modes, sizes) for one in self.many(size, name)]
            lexer = Lexer(modes, (), rules)
            for function in (winners, lookahead):
                with self.assertRaises(TooManyStates) as caught:
                    function(lexer)
                self.assertEqual(caught.exception.mode, mode)

    def test_words_count(self):
        lexer = Lexer((), [letter * 12 for letter in "abcdefghijklmnop"], [rule("z", "0123456")])
        self.assertEqual(len(lexer.automaton("main").states(300)), 200)
        winners(lexer)
        with self.assertRaises(TooManyStates):
            winners(Lexer((), [letter * 12 for letter in "abcdefghijklmnop"], [rule("z", "01234567")]))


class WinnersTest(unittest.TestCase):
    def test_example_of_the_document(self):
        self.assertEqual(winners(LET), (
            ("main", ("word", "let"), "let", ()), ("main", ("word", "="), "=", ()),
            ("main", ("rule", "word"), "a", (("word", "let"),)), ("main", ("rule", "number"), "0", ()),
            ("main", ("rule", "blank"), "\n", ())))

    def told(self, *patterns, words=()):
        return [(example, tuple(kind[1] for kind in before))
                for _, _, example, before in winners(lexer_of(*patterns, words=words))]

    def test_items_that_cannot_win(self):
        self.assertEqual(self.told("[a-z]+", "if"), [("a", ()), (None, ("a",))])
        self.assertEqual(self.told("a", "b", "a|b"), [("a", ()), ("b", ()), (None, ("a", "b"))])
        self.assertEqual(self.told("a|b", words=("b", "a")), [("b", ()), ("a", ()), (None, ("b", "a"))])

    def test_items_that_win_only_by_a_longer_text(self):
        self.assertEqual(self.told("a|aa", "a+"), [("a", ()), ("aaa", ("a",))])
        self.assertEqual(self.told("[ab]", "aa", "[abc]*b?c|a[ab]?"), [("a", ()), ("aa", ()), ("c", ("a", "b"))])
        self.assertEqual(self.told("[ab]", "aa", "a[ab]?"), [("a", ()), ("aa", ()), ("ab", ("a", "b"))])

    def test_a_longer_match_of_another_item_does_not_matter(self):
        self.assertEqual(self.told("a+", "a", "aab"), [("a", ()), (None, ("a",)), ("aab", ())])

    def test_examples_by_length_and_then_by_the_alphabet(self):
        self.assertEqual(self.told("zz|aaa|yz"), [("yz", ())])
        self.assertEqual(self.told("b\\n|b | b"), [(" b", ())])
        self.assertEqual(self.told("[b-z][0-9]|a[~A]"), [("aA", ())])
        self.assertEqual(self.told("(b|a)(d|c)|cab"), [("ac", ())])

    def test_before_only_where_the_earlier_one_is_the_first(self):
        self.assertEqual(self.told("[ab]", "a", "[abc]"), [("a", ()), (None, ("a",)), ("c", ("a",))])
        self.assertEqual(self.told("ab", "b", "c"), [("ab", ()), ("b", ()), ("c", ())])

    def test_modes(self):
        lexer = Lexer(("one", "two", "none"), ("x",), [rule("b", "[x-z]", "two"), rule("a", "[xy]", "one"),
                                                       rule("c", "z", "two")])
        self.assertEqual(winners(lexer), (
            ("one", ("word", "x"), "x", ()), ("one", ("rule", "a"), "y", (("word", "x"),)),
            ("two", ("rule", "b"), "x", ()), ("two", ("rule", "c"), None, (("rule", "b"),))))
        self.assertEqual(lookahead(lexer), (("one", 1), ("two", 1), ("none", 0)))


class LookaheadTest(unittest.TestCase):
    def number(self, *patterns, words=()):
        ((mode, number),) = lookahead(lexer_of(*patterns, words=words))
        self.assertEqual(mode, "main")
        return number

    def test_example_of_the_document(self):
        self.assertEqual(lookahead(LET), (("main", 1),))

    def test_numbers(self):
        self.assertEqual(self.number("a"), 1)
        self.assertEqual(self.number("[0-9]+(\\.[0-9]+)?"), 2)
        self.assertEqual(self.number("a", words=("abc",)), 2)
        self.assertEqual(self.number("a", words=("abcdef",)), 5)
        self.assertEqual(self.number("a", "abc", "abcdef"), 3)
        self.assertEqual(self.number("x", words=("abcdef",)), 5)
        self.assertEqual(self.number("ab"), 1)
        self.assertEqual(self.number("abc"), 2)

    def test_without_end(self):
        self.assertIsNone(self.number("'[^']*'"))
        self.assertIsNone(self.number("a(b*c)?"))
        self.assertIsNone(self.number("(ab)*c", "a"))
        self.assertEqual(self.number("ab*"), 1)

    def test_a_mode_without_items(self):
        lexer = Lexer(("one", "two"), (), [rule("a", "a", "two")])
        self.assertEqual(lookahead(lexer), (("one", 0), ("two", 1)))


class ByDefinitionTest(unittest.TestCase):
    """All texts of up to six characters are tried."""

    TEXTS = ["".join(row) for size in range(1, 7) for row in itertools.product("abc", repeat=size)]

    def random_tree(self, rng, depth):
        sort = rng.choice(("chars", "row", "either", "plus", "maybe")) if depth else "chars"
        if sort == "chars":
            return ("chars", rng.choice(("a", "b", "ab")))
        if sort in ("row", "either"):
            return (sort, (self.random_tree(rng, depth - 1), self.random_tree(rng, depth - 1)))
        return (sort, self.random_tree(rng, depth - 1))

    def test_random_lexers(self):
        rng = random.Random(8)
        done = 0
        while done < 40:
            patterns = [write_pattern(self.random_tree(rng, 2)) for _ in range(rng.randint(1, 3))]
            words = rng.sample(("a", "ab", "ba", "bb"), rng.randint(0, 2))
            try:
                lexer = lexer_of(*patterns, words=words)
            except BadLexer:
                continue
            self.check(lexer)
            done += 1

    def check(self, lexer):
        trees = [read_pattern(pattern) for pattern in lexer.words + tuple(one[1] for one in lexer.rules)]
        won, before = {}, {}
        for text in self.TEXTS:
            items = [item for item, tree in enumerate(trees) if matches(tree, text)]
            for item in items[1:]:
                before.setdefault(item, set()).add(items[0])
            if items:
                won.setdefault(items[0], text)
        kinds = lexer.kinds("main")
        for item, (_, kind, example, earlier) in enumerate(winners(lexer)):
            self.assertEqual(kind, kinds[item])
            self.assertEqual((example, earlier), (
                won.get(item), tuple(kinds[other] for other in sorted(before.get(item, ())))), lexer.rules)
        seen = max(token[4] - token[2] for text in self.TEXTS for token in tokens(lexer, text)[:1])
        ((_, number),) = lookahead(lexer)
        if number is None:
            self.assertGreaterEqual(seen, 4, lexer.rules)
        else:
            self.assertEqual(seen, number, lexer.rules)


if __name__ == "__main__":
    unittest.main()
