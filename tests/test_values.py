"""Values, symbols, variables and terms (point 8 and the section rulestand/values.py)."""

import random
import unittest

from rulestand.values import is_symbol, is_term, is_value, is_variable, value_key

RESERVED = ("kind", "relation", "fact", "rule", "if", "not", "same", "differ", "count", "sum", "least", "greatest")
SYMBOLS = ("a", "z", "a_", "a__", "a1", "abc_9", "abcdefghijkl", "kinds", "no", "sums", "iff", "equal", "atom", "true")
NO_SYMBOLS = (
    "", "A", "aB", "1", "1a", "_", "_a", "a-b", "a b", " a", "a ", "a\n", "a.", "a?", "abcdefghijklm", "\u00e9",
    "a\u00e9",
    "\u0430", "a\u0661", "a\u00b2", *RESERVED,
)
VARIABLES = ("?a", "?z", "?1", "?12345678", "?a1b2c3d4", "?kind", "?0", "?abcdefgh")
NO_VARIABLES = ("", "?", "??", "?A", "?_", "?a_", "?a b", "a", "a?", "?123456789", "?abcdefghi", "?\u00e9", "?\u0661",
    "?a\n", " ?a")
OTHERS = (
    None, True, False, 1.0, b"a", ["a"], [], (), ("a",), {}, {"a": 1}, {1}, object(), int, "a".join, float("nan"),
    ("?a",), ["?a"],
)


class FormTest(unittest.TestCase):
    def check(self, value, symbol, variable, integer):
        self.assertIs(is_symbol(value), symbol, repr(value))
        self.assertIs(is_variable(value), variable, repr(value))
        self.assertIs(is_value(value), symbol or integer, repr(value))
        self.assertIs(is_term(value), symbol or variable or integer, repr(value))

    def test_symbols(self):
        for text in SYMBOLS:
            self.check(text, True, False, False)
        for text in NO_SYMBOLS:
            self.check(text, False, False, False)

    def test_lengths_of_symbols(self):
        for length in range(16):
            self.check("a" * length, 1 <= length <= 12, False, False)

    def test_each_reserved_word(self):
        for word in RESERVED:
            self.check(word, False, False, False)
            self.check(word + "_", True, False, False)
            self.check("?" + word, False, len(word) <= 8, False)

    def test_variables(self):
        for text in VARIABLES:
            self.check(text, False, True, False)
        for text in NO_VARIABLES:
            self.assertFalse(is_variable(text), repr(text))

    def test_lengths_of_variables(self):
        for length in range(12):
            self.check("?" + "a" * length, False, 1 <= length <= 8, False)

    def test_each_single_character(self):
        for code in range(400):
            character = chr(code)
            lower = "a" <= character <= "z"
            digit = "0" <= character <= "9"
            self.assertIs(is_symbol(character), lower, repr(character))
            self.assertIs(is_symbol("a" + character), lower or digit or character == "_", repr(character))
            self.assertIs(is_variable("?" + character), lower or digit, repr(character))

    def test_integers(self):
        for number in (-1000, -999, -1, 0, 1, 999, 1000):
            self.check(number, False, False, True)
        for number in (-1001, 1001, 10 ** 30, -10 ** 30):
            self.check(number, False, False, False)

    def test_every_value_is_valid(self):
        for value in OTHERS:
            self.check(value, False, False, False)


class OrderTest(unittest.TestCase):
    def test_integers_come_first_as_numbers_then_symbols_by_characters(self):
        ordered = [-1000, -10, -9, 0, 2, 10, 1000, "a", "a0", "a1b", "a_", "aa", "ab", "b", "b0", "z"]
        for seed in range(20):
            mixed = list(ordered)
            random.Random(seed).shuffle(mixed)
            self.assertEqual(sorted(mixed, key=value_key), ordered)

    def test_keys_are_tuples(self):
        for value in (-1000, 0, 1000, "a", "abc"):
            self.assertIsInstance(value_key(value), tuple)
            self.assertEqual(value_key(value), value_key(value))
        self.assertNotEqual(value_key(1), value_key(2))
        self.assertNotEqual(value_key("a"), value_key("b"))


if __name__ == "__main__":
    unittest.main()
