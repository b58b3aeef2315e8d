"""What a language says about names ([G1] to [G3])."""

from tongues.errors import TongueError
from tongues.fields import fields_of_nodes
from tongues.tokens import is_name

MOST_SPACES = 12
MOST_FACTS = 60
WORDS = ("opens", "declares", "refers", "brings", "lists")
DECLARING_FLAGS = ("behind", "own", "inside", "gives")
BRINGING_FLAGS = ("quoted", "whole", "gives")


class BadFact(TongueError):
    """A language says something wrong about names: the number of a space or fact, or None, and what is wrong."""

    def __init__(self, number, reason):
        self.number = number
        self.reason = reason


class NodeFacts:
    """The facts of a language by the nodes that they are about."""

    def __init__(self, language):
        self._left_out = {}
        self._brought = {}
        self._named = {}
        self._referring = {}
        self._declaring = {}
        for fact in language.names:
            self._take(fact)

    def _take(self, fact):
        word, node = fact[0], fact[1]
        if word == "opens":
            self._left_out[node] = fact[2:]
            return
        if word == "brings":
            self._brought[node] = fact
            return
        self._named[node, fact[2]] = fact
        if word == "refers":
            self._referring.setdefault(node, []).append(fact[2])
        if word == "declares":
            self._declaring[node] = True

    def left_out(self, node):
        """The fields that lie outside of the scope that a node opens, None if it opens none."""
        return self._left_out.get(node)

    def bringing(self, node):
        """The fact by which a node brings a file, None if there is none."""
        return self._brought.get(node)

    def naming(self, node, field):
        """The fact by which a field of a node declares, refers or lists, None if there is none."""
        return self._named.get((node, field))

    def referring_fields(self, node):
        """The list of the fields of a node that refer, in the order of the facts."""
        return list(self._referring.get(node, []))

    def is_declaring(self, node):
        """True if a field of the node declares."""
        return node in self._declaring


def check_facts(language):
    """Raises BadFact for the first thing that a language says wrongly about names."""
    check_spaces(language.spaces)
    if len(language.names) > MOST_FACTS:
        raise BadFact(None, "facts")
    fields = fields_of_nodes(language)
    for number, fact in enumerate(language.names):
        reason = fact_reason(fact, fields, language.spaces)
        if reason is not None:
            raise BadFact(number, reason)
    for number, fact in enumerate(language.names):
        if not all([go_together(fact, other) for other in language.names[:number]]):
            raise BadFact(number, "together")
        if "inside" in flags_of(fact) and ("opens", fact[1]) not in [other[:2] for other in language.names]:
            raise BadFact(number, "inside")


def check_spaces(spaces):
    """Raises BadFact if something is wrong with the spaces."""
    if len(spaces) > MOST_SPACES:
        raise BadFact(None, "spaces")
    for number, space in enumerate(spaces):
        if not is_name(space) or space in spaces[:number]:
            raise BadFact(number, "space")


def fact_reason(fact, fields, spaces):
    """What is wrong with a fact first, by the fields of the nodes and the spaces; None if nothing is."""
    if not fact or fact[0] not in WORDS:
        return "word"
    if len(fact) < 2 or fact[1] not in fields:
        return "node"
    if fact[0] == "opens":
        return None if are_different(fact[2:], fields[fact[1]]) else "field"
    if len(fact) < 3 or fields[fact[1]].get(fact[2], ("", ""))[0] != "token":
        return "field"
    if fact[0] == "brings":
        return None if are_different(fact[3:], BRINGING_FLAGS) else "flag"
    if len(fact) < 4 or fact[3] not in spaces:
        return "space"
    if fact[0] == "declares":
        return flags_reason(fact[4:])
    if fact[0] == "lists":
        return "size" if len(fact) > 4 else None
    return within_reason(fact, fields[fact[1]])


def are_different(words, known):
    """True if each of some words is a known one, and none stands twice."""
    return all([word in known and word not in words[:place] for place, word in enumerate(words)])


def flags_reason(flags):
    """What is wrong with the flags of a declaration first."""
    if not are_different(flags, DECLARING_FLAGS):
        return "flag"
    if "behind" in flags and "own" in flags:
        return "both"
    return None


def within_reason(fact, fields):
    """What is wrong with the child within which a fact refers first."""
    if len(fact) > 5:
        return "size"
    if len(fact) == 5 and fields.get(fact[4], ("", ""))[0] != "one":
        return "child"
    return None


def flags_of(fact):
    """The flags of a fact about a declaration; none of another fact."""
    return fact[4:] if fact[0] == "declares" else ()


def go_together(fact, other):
    """True if two facts go together."""
    if fact[1] != other[1]:
        return True
    if "opens" in (fact[0], other[0]):
        return fact[0] != other[0]
    if fact[0] == "brings" and other[0] == "brings":
        return False
    return fact[2] != other[2]
