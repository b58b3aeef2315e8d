"""Patterns: their trees and their canonical texts (part B)."""

from tongues.errors import BadPattern

ALPHABET = "\n !\"#$&'()*+,-./0123456789:;<=>?@ABCDEFGHIJKLMNOPQRSTUVWXYZ[\\]^_`abcdefghijklmnopqrstuvwxyz{|}~"

SIGNS = "|*+?()[].\\"
SET_SIGNS = "]^-\\"
ESCAPED = "|*+?()[].\\^-"
REPEATS = {"*": "star", "+": "plus", "?": "maybe"}
REPEAT_SIGNS = {"star": "*", "plus": "+", "maybe": "?"}
# The empty text is what is ahead at the end of the pattern.
SEQUENCE_ENDS = ("", "|", ")")


def read_pattern(text):
    """The tree of a pattern. Raises BadPattern at the position at which the text goes wrong."""
    reader = PatternReader(text)
    tree = reader.alternatives()
    if reader.at < len(text):
        raise BadPattern(reader.at)
    return tree


class PatternReader:
    """Reads a pattern from left to right; at is the position of the next character."""

    def __init__(self, pattern):
        self.pattern = pattern
        self.at = 0

    def ahead(self):
        """The next character, which is not read; the empty text at the end."""
        return self.pattern[self.at:self.at + 1]

    def character(self):
        """Reads the next character, which the grammar demands."""
        if self.at == len(self.pattern):
            raise BadPattern(self.at)
        self.at += 1
        return self.pattern[self.at - 1]

    def alternatives(self):
        """Reads sequences, up to the end or a closing parenthesis."""
        trees = [self.sequence()]
        while self.ahead() == "|":
            self.at += 1
            trees.append(self.sequence())
        return joined("either", trees)

    def sequence(self):
        """Reads one or more parts."""
        trees = [self.part()]
        while self.ahead() not in SEQUENCE_ENDS:
            trees.append(self.part())
        return joined("row", trees)

    def part(self):
        """Reads an element and the repeat sign behind it, if there is one."""
        tree = self.element()
        sort = REPEATS.get(self.ahead())
        if sort is None:
            return tree
        self.at += 1
        return (sort, tree)

    def element(self):
        """Reads a group, a set, a dot, an escape or a character."""
        character = self.character()
        if character == "(":
            return self.group()
        if character == "[":
            return ("chars", self.set_characters())
        if character == ".":
            return ("chars", ALPHABET)
        if character == "\\":
            return ("chars", self.escape())
        if character in SIGNS or character not in ALPHABET:
            raise BadPattern(self.at - 1)
        return ("chars", character)

    def group(self):
        """Reads alternatives and the parenthesis that closes them."""
        tree = self.alternatives()
        if self.ahead() != ")":
            raise BadPattern(self.at)
        self.at += 1
        return tree

    def escape(self):
        """Reads what stands behind a backslash: the character that is meant."""
        character = self.character()
        if character == "n":
            return "\n"
        if character not in ESCAPED:
            raise BadPattern(self.at - 1)
        return character

    def set_characters(self):
        """Reads a set behind its opening bracket: the characters that it matches."""
        is_excluding = self.ahead() == "^"
        if is_excluding:
            self.at += 1
        members = self.member()
        while self.ahead() != "]":
            members += self.member()
        self.at += 1
        matched = [character for character in ALPHABET if (character in members) != is_excluding]
        if not matched:
            raise BadPattern(self.at - 1)
        return "".join(matched)

    def member(self):
        """Reads a member of a set: its characters."""
        first = self.set_character()
        if self.ahead() != "-":
            return first
        self.at += 1
        written = self.at
        last = self.set_character()
        if ALPHABET.index(last) < ALPHABET.index(first):
            raise BadPattern(written)
        return ALPHABET[ALPHABET.index(first):ALPHABET.index(last) + 1]

    def set_character(self):
        """Reads an escape or a character in a set."""
        character = self.character()
        if character == "\\":
            return self.escape()
        if character in SET_SIGNS or character not in ALPHABET:
            raise BadPattern(self.at - 1)
        return character


def joined(sort, trees):
    """The row or either of some trees; the trees of one of the same sort are put in its place."""
    if len(trees) == 1:
        return trees[0]
    flat = []
    for tree in trees:
        if tree[0] == sort:
            flat.extend(tree[1])
        else:
            flat.append(tree)
    return (sort, tuple(flat))


def write_pattern(tree):
    """The canonical text of the tree of a pattern."""
    sort, inside = tree
    if sort == "chars":
        return write_characters(inside)
    if sort == "either":
        return "|".join([write_pattern(part) for part in inside])
    if sort == "row":
        return "".join([write_grouped(part, ("either",)) for part in inside])
    return write_grouped(inside, ("either", "row", "star", "plus", "maybe")) + REPEAT_SIGNS[sort]


def write_grouped(tree, sorts):
    """The canonical text of a tree, in parentheses if it is of one of these sorts."""
    text = write_pattern(tree)
    if tree[0] in sorts:
        return "(" + text + ")"
    return text


def write_characters(characters):
    """The canonical text for some characters, which stand in the order of the alphabet."""
    if len(characters) == 1:
        return write_character(characters, SIGNS)
    if characters == ALPHABET:
        return "."
    return "[" + "".join([write_member(run) for run in runs(characters)]) + "]"


def runs(characters):
    """The characters, cut into the fewest stretches of the alphabet."""
    found = []
    for character in characters:
        if found and found[-1] + character in ALPHABET:
            found[-1] += character
        else:
            found.append(character)
    return found


def write_member(run):
    """The member of a set for a stretch of the alphabet."""
    if len(run) == 1:
        return write_character(run, SET_SIGNS)
    return write_character(run[0], SET_SIGNS) + "-" + write_character(run[-1], SET_SIGNS)


def write_character(character, signs):
    """A character as it is written where these signs need an escape."""
    if character == "\n":
        return "\\n"
    if character in signs:
        return "\\" + character
    return character


def can_be_empty(tree):
    """True if the pattern of a tree matches the empty text."""
    sort, inside = tree
    if sort == "chars":
        return False
    if sort == "row":
        return all([can_be_empty(part) for part in inside])
    if sort == "either":
        return any([can_be_empty(part) for part in inside])
    if sort == "plus":
        return can_be_empty(inside)
    return True
