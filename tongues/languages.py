"""Languages that are given as data ([C1] to [C3])."""

from tongues.errors import TongueError
from tongues.tables import Tables
from tongues.tokens import Lexer, is_name

LONGEST_WORD = 12
MOST_RULES = 30
MOST_PARTS = 12
MOST_ALTERNATIVES = 12
MOST_LEVELS = 8
MOST_PAIRS = 6
WAYS = ("left", "right", "none", "prefix", "postfix")


class BadLanguage(TongueError):
    """A language is wrong as a whole: what is wrong."""

    def __init__(self, reason):
        self.reason = reason


class BadRule(TongueError):
    """A rule of a language is wrong: its index, and what is wrong with it."""

    def __init__(self, number, reason):
        self.number = number
        self.reason = reason


class Language:
    """A language: its lexer, its rules, and what else its sections say."""

    def __init__(self, sections):
        given = {name: frozen(section) for name, section in sections.items()}
        self.rules = tuple([filled_rule(rule) for rule in given["rules"]])
        self.start = given["start"]
        check_rules(self.rules)
        if not is_name(self.start):
            raise BadLanguage("start")
        self.words = words_of(self.rules)
        self.lexer = Lexer(given.get("modes", ()), self.words, [filled_token(rule) for rule in given["tokens"]])
        self.modes = self.lexer.modes
        self.tokens = self.lexer.rules
        self.spaces = given.get("spaces", ())
        self.names = given.get("names", ())
        self.attributes = given.get("attributes", ())
        self.equations = given.get("equations", ())
        self.checks = given.get("checks", ())
        self.imports = given.get("imports", ())
        self.definitions = given.get("definitions", ())
        self._named = {}
        for rule in self.rules:
            self._named.setdefault(rule[1], rule)
        self._tables = None

    def rule(self, name):
        """The first rule with this name, None if there is none."""
        return self._named.get(name)

    def settled_tables(self):
        """The tables of the language, which has no faults of names; they are made once."""
        if self._tables is None:
            self._tables = Tables(self)
        return self._tables


def frozen(value):
    """A value with tuples in place of all lists in it."""
    if isinstance(value, (list, tuple)):
        return tuple([frozen(part) for part in value])
    return value


def filled_token(rule):
    """A token rule with all elements."""
    return rule + (None, None, False)[len(rule) - 2:]


def filled_rule(rule):
    """A rule with all elements."""
    if rule[0] == "node":
        return ("node", rule[1], tuple([filled_part(part) for part in rule[2]]))
    if rule[0] == "operators" and len(rule) == 4:
        return rule + (None,)
    return rule


def filled_part(part):
    """A part of a node with all elements."""
    if part[0] == "many" and len(part) == 3:
        return part + (None,)
    return part


def check_rules(rules):
    """Raises BadLanguage or BadRule for the first thing that is wrong with the rules."""
    if not 1 <= len(rules) <= MOST_RULES:
        raise BadLanguage("rules")
    for number, rule in enumerate(rules):
        reason = rule_reason(rule)
        if reason is not None:
            raise BadRule(number, reason)


def rule_reason(rule):
    """What is wrong with a rule first, None if nothing is."""
    if not is_name(rule[1]):
        return "name"
    if rule[0] == "node":
        return node_reason(rule[2])
    if rule[0] == "choice":
        return choice_reason(rule[2])
    return operators_reason(rule)


def node_reason(parts):
    """What is wrong with the parts of a node first."""
    if len(parts) > MOST_PARTS:
        return "parts"
    if not all([is_part(part) for part in parts]):
        return "part"
    return None


def is_part(part):
    """True if the names and words of a part of a node are such."""
    if part[0] == "word":
        return is_word(part[1])
    if part[0] == "many" and part[3] is not None and not is_word(part[3]):
        return False
    return is_name(part[1]) and is_name(part[2])


def is_word(text):
    """True for a text of 1 to 12 characters."""
    return 1 <= len(text) <= LONGEST_WORD


def choice_reason(alternatives):
    """What is wrong with the alternatives of a choice first."""
    if not 1 <= len(alternatives) <= MOST_ALTERNATIVES:
        return "alternatives"
    if not all([is_name(name) for name in alternatives]):
        return "alternative"
    return None


def operators_reason(rule):
    """What is wrong with an operators rule first, its name aside."""
    _, _, base, levels, brackets = rule
    if not is_name(base):
        return "base"
    if not 1 <= len(levels) <= MOST_LEVELS:
        return "levels"
    if not all([is_level(level) for level in levels]):
        return "level"
    if brackets is not None and not all([is_word(word) for word in brackets]):
        return "brackets"
    return None


def is_level(level):
    """True if a level of operators is one."""
    way, pairs = level
    if way not in WAYS or not 1 <= len(pairs) <= MOST_PAIRS:
        return False
    return all([is_word(word) and is_name(name) for word, name in pairs])


def words_of(rules):
    """The words of some rules, in the order of their first places, each once."""
    found = {}
    for rule in rules:
        for word in rule_words(rule):
            found[word] = True
    return tuple(found)


def rule_words(rule):
    """The list of the words of a rule, in order."""
    if rule[0] == "choice":
        return []
    if rule[0] == "node":
        words = [part[1] if part[0] == "word" else part[3] for part in rule[2] if part[0] in ("word", "many")]
        return [word for word in words if word is not None]
    words = [word for _, pairs in rule[3] for word, _ in pairs]
    if rule[4] is not None:
        words.extend(rule[4])
    return words
