"""Lexers and the tokens of texts (part B)."""

from tongues.automata import Automaton
from tongues.errors import BadLexer, BadPattern
from tongues.patterns import can_be_empty, read_pattern
from tongues.texts import apply_change

LETTERS = "abcdefghijklmnopqrstuvwxyz"
LONGEST_NAME = 12
LONGEST_WORD = 12
LONGEST_PATTERN = 60
MOST_MODES = 4
MOST_WORDS = 60
MOST_RULES = 20


def is_name(text):
    """True for 1 to 12 letters a to z."""
    return 1 <= len(text) <= LONGEST_NAME and all(character in LETTERS for character in text)


class Lexer:
    """Cuts texts into tokens, by modes, words and rules."""

    def __init__(self, modes, words, rules):
        self.modes = tuple(modes) if modes else ("main",)
        self.words = tuple(words)
        check_modes(self.modes)
        check_words(self.words)
        trees = checked_rules(self.modes, rules)
        self.rules = tuple([settled_rule(self.modes, rule) for rule in rules])
        self._kinds = {mode: [] for mode in self.modes}
        self._next_modes = {}
        self._skipped = {}
        item_trees = {mode: [] for mode in self.modes}
        for word in self.words:
            self._kinds[self.modes[0]].append(("word", word))
            item_trees[self.modes[0]].append(word_tree(word))
        for tree, (name, _, mode, next_mode, is_skipped) in zip(trees, self.rules):
            self._kinds[mode].append(("rule", name))
            item_trees[mode].append(tree)
            self._next_modes[name] = next_mode
            self._skipped["rule", name] = is_skipped
        self._automata = {mode: Automaton(item_trees[mode]) for mode in self.modes}

    def kinds(self, mode):
        """The list of the kinds of the items of a mode."""
        return list(self._kinds[mode])

    def automaton(self, mode):
        """The automaton of the items of a mode."""
        return self._automata[mode]

    def is_skipped(self, kind):
        """True if tokens of this kind are not given to the parser."""
        return self._skipped.get(kind, False)

    def token(self, text, start, mode):
        """The token at a position of a text in a mode, and the mode behind it."""
        automaton = self._automata[mode]
        state = None
        at = start
        item = None
        stop = start + 1
        while at < len(text) and state != ():
            state = automaton.after(state, text[at])
            at += 1
            found = automaton.matching(state)
            if found:
                item = found[0]
                stop = at
        looked = at if state == () else at + 1
        kind = ("stray",) if item is None else self._kinds[mode][item]
        return ((kind, start, stop, mode, looked), self.mode_behind(kind, mode))

    def mode_behind(self, kind, mode):
        """The mode that follows a token of a kind that begins in a mode."""
        if kind[0] == "word":
            return self.modes[0]
        if kind[0] == "rule":
            return self._next_modes[kind[1]]
        return mode


def check_modes(modes):
    """Raises BadLexer if something is wrong with the modes."""
    if len(modes) > MOST_MODES or len(set(modes)) < len(modes):
        raise BadLexer(None, "modes")
    if not all([is_name(mode) for mode in modes]):
        raise BadLexer(None, "modes")


def check_words(words):
    """Raises BadLexer if there are too many words, or for the first wrong one."""
    if len(words) > MOST_WORDS:
        raise BadLexer(None, "words")
    for index, word in enumerate(words):
        if not 1 <= len(word) <= LONGEST_WORD or word in words[:index]:
            raise BadLexer(index, "word")


def checked_rules(modes, rules):
    """The trees of the patterns of the rules. Raises BadLexer for the first thing that is wrong."""
    if not 1 <= len(rules) <= MOST_RULES:
        raise BadLexer(None, "rules")
    trees = [checked_rule(modes, index, rule) for index, rule in enumerate(rules)]
    names = [rule[0] for rule in rules]
    for index, name in enumerate(names):
        if name in names[:index]:
            raise BadLexer(index, "double")
    return trees


def checked_rule(modes, index, rule):
    """The tree of the pattern of a rule. Raises BadLexer for what is wrong with the rule alone."""
    name, pattern, mode, next_mode, _ = rule
    if not is_name(name):
        raise BadLexer(index, "name")
    tree = pattern_tree(pattern)
    if tree is None:
        raise BadLexer(index, "pattern")
    if can_be_empty(tree):
        raise BadLexer(index, "empty")
    for named in (mode, next_mode):
        if named is not None and named not in modes:
            raise BadLexer(index, "mode")
    return tree


def pattern_tree(pattern):
    """The tree of the pattern of a rule, None if it is too long or no pattern."""
    if len(pattern) > LONGEST_PATTERN:
        return None
    try:
        return read_pattern(pattern)
    except BadPattern:
        return None


def settled_rule(modes, rule):
    """A rule with its modes filled in."""
    name, pattern, mode, next_mode, is_skipped = rule
    if mode is None:
        mode = modes[0]
    if next_mode is None:
        next_mode = mode
    return (name, pattern, mode, next_mode, is_skipped)


def word_tree(word):
    """The tree of a pattern that matches a word alone."""
    trees = [("chars", character) for character in word]
    if len(trees) == 1:
        return trees[0]
    return ("row", tuple(trees))


def tokens(lexer, text):
    """The tuple of the tokens of a text."""
    return tokens_from(lexer, text, lexer.modes[0])


def tokens_from(lexer, text, mode):
    """The tuple of the tokens of a text that begins in a mode."""
    found = []
    at = 0
    while at < len(text):
        token, mode = lexer.token(text, at, mode)
        found.append(token)
        at = token[2]
    return tuple(found)


def relex(lexer, text, change):
    """The tokens after a change, each with the number of the old one that it is; how much was read."""
    new_text = apply_change(text, change)
    old = tokens(lexer, text)
    known = untouched(old, change)
    rows = []
    read = 0
    at = 0
    mode = lexer.modes[0]
    while at < len(new_text):
        number = known.get((at, mode))
        if number is None:
            token, mode = lexer.token(new_text, at, mode)
            read += min(token[4], len(new_text)) - at
        else:
            token = moved_token(old[number], at)
            mode = lexer.mode_behind(token[0], mode)
        rows.append(token + (number,))
        at = token[2]
    return (tuple(rows), read)


def untouched(old, change):
    """From the new beginnings and the modes of the tokens that a change leaves as they are to their numbers."""
    known = {}
    ahead = 0
    shift = 0
    for number, (_, start, _, mode, looked) in enumerate(old):
        while ahead < len(change) and change[ahead][1] <= start:
            begin, end, put = change[ahead]
            shift += len(put) - (end - begin)
            ahead += 1
        if ahead == len(change) or change[ahead][0] >= looked:
            known[start + shift, mode] = number
    return known


def moved_token(token, at):
    """A token as it is where it begins at another position."""
    kind, start, stop, mode, looked = token
    return (kind, at, stop - start + at, mode, looked - start + at)
