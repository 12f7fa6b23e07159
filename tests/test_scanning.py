"""Tokens (points 117 to 119)."""

import random
import unittest

from rulestand.errors import TextError
from rulestand.scanning import scan

EVERY_SIGN = ("{", "}", "(", ")", ".", ",", ":", "=", "<", "<=", ">", ">=", "+", "-", "*")
RESERVED = "kind relation fact rule if not same differ count sum least greatest".split()


class Texts(unittest.TestCase):
    def problem(self, line, column, words, call, *arguments):
        with self.assertRaises(TextError) as caught:
            call(*arguments)
        error = caught.exception
        self.assertEqual((error.line, error.column, error.words), (line, column, words), arguments)


def short(text):
    """Return the kinds and characters of the tokens of a text, without the end."""
    return [token[:2] for token in scan(text)[:-1]]


class TokenTest(Texts):
    def test_the_empty_text_blanks_and_comments(self):
        for text, line, column in (
            ("", 1, 1), (" ", 1, 2), ("\n", 2, 1), ("\t\t", 1, 3), ("\n\n  ", 3, 3), ("#", 1, 2),
            ("# a comment", 1, 12),
            ("#\n", 2, 1), ("#a\n#b", 2, 3), (" # \u00e9 ?! %\r\n\n", 3, 1),
        ):
            self.assertEqual(scan(text), [("end", "", line, column)], text)

    def test_words(self):
        for word in ("a", "z9", "abcdefghijkl", "a_b_", "kinds", "kin", "nott", "sum_", "if0"):
            self.assertEqual(scan(word), [("name", word, 1, 1), ("end", "", 1, len(word) + 1)])
        for word in RESERVED:
            self.assertEqual(scan(word), [("reserved", word, 1, 1), ("end", "", 1, len(word) + 1)])

    def test_variables_numbers_and_signs(self):
        for kind, found in (("variable", ("?x", "?0", "?12345678", "?kind", "?a1b2c3d4")),
                            ("number", ("0", "1000", "0999", "0000", "7")), ("sign", EVERY_SIGN)):
            for characters in found:
                self.assertEqual(scan(characters), [(kind, characters, 1, 1), ("end", "", 1, len(characters) + 1)])

    def test_tokens_are_as_long_as_possible(self):
        for text, tokens in (
            ("<==>=>", ["<=", "=", ">=", ">"]), ("<<=", ["<", "<="]), ("=<", ["=", "<"]), ("--1", ["-", "-", "1"]),
            ("12ab", ["12", "ab"]), ("ab12_c", ["ab12_c"]), ("?x?y", ["?x", "?y"]), ("?x_a", None),
            ("a?b1", ["a", "?b1"]),
            ("?1a.b", ["?1a", ".", "b"]), ("notq", ["notq"]), ("not(q", ["not", "(", "q"]), ("1?x1", ["1", "?x1"]),
            ("kind#a\nrule", ["kind", "rule"]), ("a#b", ["a"]), ("<#\n=", ["<", "="]), ("1000", ["1000"]),
            ("< =", ["<", "="]),
        ):
            if tokens is None:
                self.problem(1, 3, "no token begins here", scan, text)
            else:
                self.assertEqual([characters for _, characters in short(text)], tokens, text)

    def test_places(self):
        text = "kind  n\t=\n  {a,#x\n\n1}.\n"
        self.assertEqual(scan(text), [
            ("reserved", "kind", 1, 1), ("name", "n", 1, 7), ("sign", "=", 1, 9), ("sign", "{", 2, 3),
            ("name", "a", 2, 4),
            ("sign", ",", 2, 5), ("number", "1", 4, 1), ("sign", "}", 4, 2), ("sign", ".", 4, 3), ("end", "", 5, 1),
        ])
        self.assertEqual(scan("a  # b")[-1], ("end", "", 1, 7))

    def test_the_list_is_new_at_each_call(self):
        scan("a.").clear()
        self.assertEqual(len(scan("a.")), 3)

    def test_a_long_text(self):
        self.assertEqual(len(scan("a." * 10000)), 20001)
        self.assertEqual(len(scan("a." * 10001)), 20003)
        self.assertEqual(scan("#" + "x" * 19999), [("end", "", 1, 20001)])


class ProblemTest(Texts):
    def test_characters_that_begin_no_token(self):
        for character in ("A", "_", "!", "?", "%", '"', "'", "/", "[", ";", "\r", "\x0b", "\f", "\u00a0", "\u00e9",
            "\u00b2",
                          "\u0663", "\u2028", "\x00", "\x85", "&", "|", "~", "\\", "@", "\u01c5"):
            self.problem(1, 1, "no token begins here", scan, character)
            self.problem(2, 3, "no token begins here", scan, "a\n  " + character + " b")
        for text, column in (("aB", 2), ("a\u00e9", 2), ("1_", 2), ("??x", 1), ("?X", 1), ("? x", 1), ("?_", 1),
                ("x?", 2), ("?\n", 1)):
            self.problem(1, column, "no token begins here", scan, text)

    def test_words_of_12_and_13_characters(self):
        self.assertEqual(short("abcdefghijkl greatest"), [("name", "abcdefghijkl"), ("reserved", "greatest")])
        self.problem(1, 2, "a word has at most 12 characters", scan, " abcdefghijklm")
        self.problem(2, 1, "a word has at most 12 characters", scan, "a\n" + "b_1" * 400)

    def test_variables_of_8_and_9_characters(self):
        self.assertEqual(short("?abcdefgh"), [("variable", "?abcdefgh")])
        self.problem(1, 1, "a variable has at most 8 characters", scan, "?abcdefghi")
        self.problem(1, 3, "a variable has at most 8 characters", scan, "( ?123456789 )")

    def test_numbers_beyond_1000_and_of_5_digits(self):
        self.assertEqual(short("1000 0001"), [("number", "1000"), ("number", "0001")])
        for number in ("1001", "9999", "00000", "01000", "10000", "9" * 6000):
            self.problem(1, 1, "a number is at most 1000", scan, number)
            self.problem(1, 2, "a number is at most 1000", scan, "-" + number + "a")

    def test_12_and_13_open_parentheses(self):
        for opening in ("(" * 12, "{" * 12, "({" * 6):
            self.assertEqual(len(scan(opening)), 13)
            self.assertEqual(len(scan(opening + ")" * 12 + opening)), 37)
            self.assertEqual(len(scan(opening + "})(")), 16)
            for extra in ("(", "{"):
                self.problem(1, 13, "nested too deep", scan, opening + extra)
                self.problem(2, 1, "nested too deep", scan, opening + "\n" + extra)
                self.problem(1, 15, "nested too deep", scan, opening + "}" + "(" + extra)

    def test_a_closing_one_that_closes_nothing_is_ignored(self):
        self.assertEqual(len(scan(")}))" + "(" * 12)), 17)
        self.problem(1, 17, "nested too deep", scan, ")}))" + "(" * 13)
        self.problem(1, 16, "nested too deep", scan, "())" + "{" * 13)

    def test_the_first_token_with_a_problem_is_reported(self):
        long, number, variable, deep = "abcdefghijklm", "1001", "?abcdefghi", "(" * 13
        self.problem(1, 1, "a word has at most 12 characters", scan, f"{long} {number} {variable} {deep} !")
        self.problem(1, 1, "a number is at most 1000", scan, f"{number} {long} !")
        self.problem(1, 1, "a variable has at most 8 characters", scan, f"{variable} {number}")
        self.problem(1, 13, "nested too deep", scan, f"{deep} ! {number}")
        self.problem(1, 1, "no token begins here", scan, f"! {deep} {number}")
        self.problem(1, 13, "a number is at most 1000", scan, "(" * 12 + "1001" + "(")
        self.problem(2, 2, "no token begins here", scan, "# 1001 ! " + long + "\n.!" + long)

    def test_drawn_texts(self):
        for seed in range(300):
            chance = random.Random(seed)
            tokens = [chance.choice(("a", "kind", "?x1", "12", "=", "<=", "{", "}", ".", "-", "not",
                "z_9")) for _ in range(30)]
            gaps = [chance.choice((" ", "\n", " \t", "#b(!\n", "\n\n")) for _ in tokens]
            text = "".join(gap + token for gap, token in zip(gaps, tokens))
            found = scan(text)
            self.assertEqual([token[1] for token in found], [*tokens, ""])
            at = 0
            for (_, characters, line, column), gap in zip(found, [*gaps, ""]):
                at += len(gap)
                self.assertEqual((line, column), (1 + text[:at].count("\n"), at - (text[:at].rfind("\n") + 1) + 1))
                at += len(characters)


if __name__ == "__main__":
    unittest.main()
