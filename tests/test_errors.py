"""The errors of the package: their bases and attributes."""

import unittest

from tongues.errors import BadChange, BadLexer, BadPattern, TongueError, TooDeep, TooLong, TooManyStates
from tongues.formulas import BadFormula, BadName, BadValue
from tongues.languages import BadLanguage, BadRule


class ErrorsTest(unittest.TestCase):
    def test_bases(self):
        self.assertEqual(TongueError.__bases__, (ValueError,))
        for error in (BadChange, BadPattern, BadLexer, TooManyStates, TooLong, TooDeep, BadLanguage, BadRule,
                      BadName, BadValue, BadFormula):
            self.assertEqual(error.__bases__, (TongueError,))

    def test_attributes(self):
        for error in (BadChange(3, "order"), BadLexer(3, "order"), BadChange(number=3, reason="order")):
            self.assertEqual((error.number, error.reason), (3, "order"))
        self.assertIsNone(BadLexer(None, "modes").number)
        self.assertEqual(BadPattern(7).position, 7)
        self.assertEqual(TooManyStates("main").mode, "main")
        self.assertEqual(BadLanguage("start").reason, "start")
        self.assertEqual((BadRule(2, "base").number, BadRule(2, "base").reason), (2, "base"))
        self.assertEqual((BadFormula((1,), "name").way, BadFormula((1,), "name").reason), ((1,), "name"))


if __name__ == "__main__":
    unittest.main()
