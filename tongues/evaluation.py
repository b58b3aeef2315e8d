"""What a formula is evaluated to, or asks next, when it was told some answers ([E2], [E3])."""

from tongues.formulas import LARGEST

CYCLIC = "cyclic"


class Evaluation:
    """One evaluation of a formula, from the beginning, with answers that are told one after the other.

    It stops where a further answer is needed, which `wanted` names, or where the whole formula is
    cyclic. Once it has stopped, nothing more is asked, and what is still worked out does not count.
    """

    def __init__(self, formula, answers):
        self.wanted = None
        self.is_cyclic = False
        self._answers = answers
        self._used = 0
        self._result = self._value(formula)

    def result(self):
        """The answer of the formula, if no further one is wanted."""
        return CYCLIC if self.is_cyclic else self._result

    def _value(self, formula):
        if self.wanted is not None or self.is_cyclic:
            return None
        if isinstance(formula, str):
            return self._named(formula)
        if not isinstance(formula, tuple):
            return formula
        if formula[0] == "cyclic":
            return 1 if self._told(formula[1]) == CYCLIC else 0
        if formula[0] == "or":
            value = self._value(formula[1])
            return self._value(formula[2]) if value is None else value
        if formula[0] == "if":
            return self._value(formula[3] if self._value(formula[1]) in (None, 0) else formula[2])
        return joined(formula[0], self._value(formula[1]), self._value(formula[2]))

    def _named(self, name):
        """The answer of a cell that is asked by its name alone."""
        answer = self._told(name)
        if answer == CYCLIC:
            self.is_cyclic = True
            return None
        return answer

    def _told(self, name):
        """The next answer that was told, None if there is none."""
        if self._used == len(self._answers):
            self.wanted = name
            return None
        self._used += 1
        return self._answers[self._used - 1]


def joined(word, first, second):
    """The sum or the smaller one of two values; of None and another one the other one."""
    if first is None:
        return second
    if second is None:
        return first
    if word == "least":
        return min(first, second)
    return max(-LARGEST, min(LARGEST, first + second))
