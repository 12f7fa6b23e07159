"""The errors of the program (point 7 and the section rulestand/errors.py)."""

import unittest

from rulestand.errors import BadProgram, BadValue, NotLinked, RuleError, TextError, TooLarge

BELOW = (BadValue, BadProgram, TooLarge, NotLinked, TextError)


class ErrorTest(unittest.TestCase):
    def test_hierarchy(self):
        self.assertTrue(issubclass(RuleError, ValueError))
        for error in BELOW:
            self.assertTrue(issubclass(error, RuleError))
            for other in BELOW:
                self.assertEqual(issubclass(error, other), error is other)

    def test_attributes(self):
        self.assertEqual(BadValue("program").name, "program")
        self.assertEqual(TooLarge("choices").what, "choices")
        for error in (BadProgram, NotLinked):
            raised = error(("rules", 0, 1), "form")
            self.assertEqual((raised.where, raised.why), (("rules", 0, 1), "form"))
        raised = TextError(1, 26, "unknown")
        self.assertEqual((raised.line, raised.column, raised.words), (1, 26, "unknown"))

    def test_each_can_be_shown(self):
        for raised in (BadValue("x"), BadProgram(("rules", 0), "many"), TooLarge("x"), NotLinked((0,), "module"),
                       TextError(1, 2, "unknown"), RuleError()):
            self.assertIsInstance(str(raised), str)
            self.assertIsInstance(repr(raised), str)


if __name__ == "__main__":
    unittest.main()
