"""The errors of the package: their bases and attributes."""

import unittest

from tongues.cells import NoCell, TooManyCells
from tongues.errors import BadChange, BadLexer, BadPattern, TongueError, TooDeep, TooLong, TooManyStates
from tongues.expressions import BadExpression
from tongues.facts import BadFact
from tongues.formulas import BadFormula, BadName, BadValue
from tongues.languages import BadLanguage, BadRule
from tongues.lookups import NoOccurrence
from tongues.printing import NoBrackets, NoElement, NoList, NoNode, NotWhole, NotWritable
from tongues.projects import BadProject, NoFile
from tongues.sections import BadSection


class ErrorsTest(unittest.TestCase):
    def test_bases(self):
        self.assertEqual(TongueError.__bases__, (ValueError,))
        for error in (BadChange, BadPattern, BadLexer, TooManyStates, TooLong, TooDeep, BadLanguage, BadRule,
                      BadName, BadValue, BadFormula, NoCell, TooManyCells, NoNode, NoList, NoElement, NotWritable,
                      NotWhole, NoBrackets, BadFact, BadProject, NoFile, NoOccurrence, BadExpression, BadSection):
            self.assertEqual(error.__bases__, (TongueError,))

    def test_attributes(self):
        for error in (BadChange(3, "order"), BadLexer(3, "order"), BadChange(number=3, reason="order")):
            self.assertEqual((error.number, error.reason), (3, "order"))
        self.assertIsNone(BadLexer(None, "modes").number)
        self.assertEqual(BadPattern(7).position, 7)
        self.assertEqual(TooManyStates("main").mode, "main")
        self.assertEqual(BadLanguage("start").reason, "start")
        self.assertEqual((BadRule(2, "base").number, BadRule(2, "base").reason), (2, "base"))
        self.assertEqual((BadFormula((1,), "name").way, BadFormula((1,), "name").reason), ((1,), "name"))
        self.assertEqual((NotWhole("sum").rule, NoBrackets("sum").rule), ("sum", "sum"))
        self.assertEqual((BadFact(2, "word").number, BadFact(2, "word").reason), (2, "word"))
        self.assertEqual((BadProject("a", "name").name, BadProject("a", "name").reason), ("a", "name"))
        self.assertEqual((NoFile("a").name, BadExpression(4).position), ("a", 4))
        self.assertEqual((NoOccurrence("a", 4).file, NoOccurrence("a", 4).position), ("a", 4))
        error = BadSection("checks", 1, "name")
        self.assertEqual((error.section, error.number, error.reason), ("checks", 1, "name"))


if __name__ == "__main__":
    unittest.main()
