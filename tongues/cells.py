"""Cells: inputs, and formulas that run again only if something that they read answers otherwise (part E)."""

from tongues.errors import TongueError
from tongues.evaluation import CYCLIC, Evaluation
from tongues.formulas import LARGEST, BadName, BadValue, check_formula
from tongues.tokens import is_name

MOST_CELLS = 24
RUN = "run"
KEPT = "kept"


class NoCell(TongueError):
    """There is no cell of this name."""


class TooManyCells(TongueError):
    """There would be more cells than can exist at one time."""


class Memo:
    """What a formula was told when it was last answered, its answer, and what it asked last in a ring."""

    def __init__(self, told, answer, last):
        self.told = told
        self.answer = answer
        self.last = last


class Turn:
    """A formula that is being answered: what it was told so far, and whether it still goes by its memo."""

    def __init__(self, name, formula, memo):
        self.name = name
        self.told = []
        self.is_kept = memo is not None
        self._formula = formula
        self._memo = memo

    def next_name(self):
        """The name that the formula asks next, None if it asks nothing more."""
        if not self.is_kept:
            return self._evaluation().wanted
        if len(self.told) < len(self._memo.told):
            return self._memo.told[len(self.told)][0]
        return self._memo.last

    def hear(self, name, answer):
        """Tells the formula what the name that it asked answers."""
        many = len(self.told)
        # A cell that was asked last in a ring told nothing then.
        if self.is_kept and (many == len(self._memo.told) or self._memo.told[many][1] != answer):
            self.is_kept = False
        self.told.append((name, answer))

    def result(self):
        """The answer of the formula, which asks nothing more."""
        if self.is_kept:
            return self._memo.answer
        return self._evaluation().result()

    def _evaluation(self):
        return Evaluation(self._formula, [answer for _, answer in self.told])


class Cells:
    """Cells by their names. A rule is the pair of "value" and a value, or of "formula" and a formula."""

    def __init__(self):
        self._rules = {}
        self._memos = {}
        # How the formulas that were answered in the present revision came to their answers.
        self._answered = {}

    @property
    def cell_names(self):
        """The ascending list of the names of all cells."""
        return sorted(self._rules)

    def put(self, name, value):
        """Makes a cell an input."""
        check_name(name)
        if not is_value(value):
            raise BadValue("an input has no such value")
        self._give_rule(name, ("value", value))

    def define(self, name, formula):
        """Gives a cell a formula."""
        check_name(name)
        check_formula(formula)
        self._give_rule(name, ("formula", formula))

    def remove(self, name):
        """Removes a cell."""
        self._check_cell(name)
        del self._rules[name]
        self._begin_revision(name)

    def ask(self, name):
        """The answer of a cell: an integer, None or "cyclic"."""
        self._check_cell(name)
        turns = []
        if not self._is_answered(name):
            turns.append(self._turn(name))
        while turns:
            self._go_on(turns)
        return self._answer(name)

    def reads(self, name):
        """What the memo of a formula has, pairs of a name and an answer; None without a memo."""
        self._check_cell(name)
        if name not in self._memos:
            return None
        memo = self._memos[name]
        if memo.last is None:
            return list(memo.told)
        return memo.told + [(memo.last, CYCLIC)]

    def readers(self, name):
        """The ascending list of the names of the formulas that read a name."""
        return [reader for reader in sorted(self._memos) if name in [read for read, _ in self.reads(reader)]]

    def work(self):
        """The names of the formulas that were run in the present revision, that were kept, and that were in a ring."""
        answered = sorted(self._answered)
        return ([name for name in answered if self._answered[name] == RUN],
                [name for name in answered if self._answered[name] == KEPT],
                [name for name in answered if self._memos[name].last is not None])

    def trim(self):
        """Drops the memos of the formulas that were not answered in the present revision; how many these are."""
        unanswered = [name for name in self._memos if name not in self._answered]
        for name in unanswered:
            del self._memos[name]
        return len(unanswered)

    def _check_cell(self, name):
        if name not in self._rules:
            raise NoCell("there is no cell of this name")

    def _give_rule(self, name, rule):
        if name not in self._rules and len(self._rules) == MOST_CELLS:
            raise TooManyCells("there are too many cells")
        if self._rules.get(name) != rule:
            self._rules[name] = rule
            self._begin_revision(name)

    def _begin_revision(self, name):
        """Begins a new revision with the change of a cell."""
        self._memos.pop(name, None)
        self._answered = {}

    def _turn(self, name):
        return Turn(name, self._rules[name][1], self._memos.get(name))

    def _is_answered(self, name):
        """True for a name whose answer is known: without a cell, of an input, or of an answered formula."""
        return name not in self._rules or self._rules[name][0] == "value" or name in self._answered

    def _answer(self, name):
        """The answer of a name, which is known."""
        if name not in self._rules:
            return None
        if self._rules[name][0] == "value":
            return self._rules[name][1]
        return self._memos[name].answer

    def _go_on(self, turns):
        """Goes on with the last one of some turns, each of which asks the formula of the next one."""
        turn = turns[-1]
        name = turn.next_name()
        if name is None:
            self._close(turn, turn.result(), None)
            turns.pop()
        elif self._is_answered(name):
            turn.hear(name, self._answer(name))
        elif name in [other.name for other in turns]:
            self._close_ring(turns, name)
        else:
            turns.append(self._turn(name))

    def _close_ring(self, turns, name):
        """Answers the turns from that of a name on, which ask one another in a ring."""
        first = [turn.name for turn in turns].index(name)
        for turn in turns[first:]:
            self._close(turn, CYCLIC, turn.next_name())
        del turns[first:]

    def _close(self, turn, answer, last):
        """Gives the formula of a turn its answer."""
        self._memos[turn.name] = Memo(turn.told, answer, last)
        self._answered[turn.name] = KEPT if turn.is_kept else RUN


def check_name(name):
    """Raises BadName for a text that is no name of a cell."""
    if not is_name(name):
        raise BadName("a cell has no such name")


def is_value(value):
    """True for what an input can have as its value."""
    if value is None:
        return True
    return not isinstance(value, bool) and -LARGEST <= value <= LARGEST
