"""Tests of consol.lexer (point 25)."""

import unittest

from consol.errors import TextError
from consol.lexer import tokens


def texts(line):
    return [text for _, text, _ in tokens(line, 1)]


class TokensTest(unittest.TestCase):
    def test_example(self):
        told = [("word", "coupon", 1), ("number", "3/4", 8), ("sign", "+", 11), ("word", "rate", 13), ("word", "x", 18)]
        self.assertEqual(tokens("coupon 3/4+ rate x", 7), told)

    def test_no_tokens(self):
        self.assertEqual(tokens("", 1), [])
        self.assertEqual(tokens(" ", 1), [])
        self.assertEqual(tokens("      ", 1), [])

    def test_each_sign(self):
        for sign in ("<", "<=", "=", ">", ">=", "+", "-", "*", "$", "(", ")", ","):
            self.assertEqual(tokens(sign, 1), [("sign", sign, 1)])
            self.assertEqual(tokens(f"  {sign} ", 1), [("sign", sign, 3)])
            told = [("word", "a", 1), ("sign", sign, 2), ("number", "1", 2 + len(sign))]
            self.assertEqual(tokens(f"a{sign}1", 1), told)

    def test_signs_side_by_side(self):
        self.assertEqual(texts("<=>=<>===<<=>>="), ["<=", ">=", "<", ">=", "=", "=", "<", "<=", ">", ">="])
        self.assertEqual(texts("= <"), ["=", "<"])
        self.assertEqual(texts("< ="), ["<", "="])
        self.assertEqual(texts("=<"), ["=", "<"])
        self.assertEqual(texts("=>"), ["=", ">"])
        self.assertEqual(texts("((-$,)*+)"), ["(", "(", "-", "$", ",", ")", "*", "+", ")"])

    def test_words(self):
        self.assertEqual(tokens("abcdefghijkl", 1), [("word", "abcdefghijkl", 1)])
        self.assertEqual(tokens("abc xyz", 1), [("word", "abc", 1), ("word", "xyz", 5)])
        self.assertEqual(tokens("if", 1), [("word", "if", 1)])
        self.assertEqual(tokens("iffy", 1), [("word", "iffy", 1)])
        self.assertEqual(tokens("a12b", 1), [("word", "a", 1), ("number", "12", 2), ("word", "b", 4)])

    def test_numbers(self):
        for text in ("0", "1", "9", "10", "123456789012", "0/1", "0/5", "4/2", "7/7", "1/100", "98/100000000000"):
            self.assertEqual(tokens(text, 1), [("number", text, 1)])
            told = [("sign", "(", 1), ("number", text, 2), ("sign", ")", 2 + len(text))]
            self.assertEqual(tokens(f"({text})", 1), told)
        self.assertEqual(texts("1 2"), ["1", "2"])
        self.assertEqual(texts("0 0"), ["0", "0"])

    def test_spaces_only_separate(self):
        told = [(kind, text) for kind, text, _ in tokens("min(a,3)*$4/5<=b", 1)]
        spaced = [(kind, text) for kind, text, _ in tokens("  min ( a ,  3 ) * $ 4/5   <= b ", 1)]
        self.assertEqual(told, spaced)

    def test_columns(self):
        line = "let  a = (fact income*2)<$30"
        for kind, text, column in tokens(line, 1):
            self.assertEqual(line[column - 1:column - 1 + len(text)], text)
        self.assertEqual([column for _, _, column in tokens(line, 1)], [1, 6, 8, 10, 11, 16, 22, 23, 24, 25, 26, 27])

    def test_new_lists(self):
        tokens("a b", 1).clear()
        self.assertEqual(len(tokens("a b", 1)), 2)


class ErrorsTest(unittest.TestCase):
    def check(self, line, column, reason):
        for number in (1, 7, 60):
            with self.subTest(line), self.assertRaises(TextError) as caught:
                tokens(line, number)
            error = caught.exception
            self.assertEqual((error.line, error.column, error.reason), (number, column, reason))

    def test_characters(self):
        for character in "ABZ_.;:'\"!?&|^~#@[]{}\\%`\t\r\n\v\f\x00\x7f\u00e9\u0661\u00b2\u2003\uff41/":
            self.check(character, 1, "character")
            self.check(f"ab {character}", 4, "character")
            self.check(f"ab{character}cd", 3, "character")

    def test_slashes_without_digits(self):
        self.check("1/", 2, "character")
        self.check("1/ 2", 2, "character")
        self.check("1 /2", 3, "character")
        self.check("12/a", 3, "character")
        self.check("1/2/3", 4, "character")
        self.check("1//2", 2, "character")
        self.check("a/2", 2, "character")

    def test_long_words(self):
        self.check("abcdefghijklm", 1, "word")
        self.check("  abcdefghijklmnopqrstuvwxyz", 3, "word")
        self.check("1abcdefghijklm", 2, "word")

    def test_numbers(self):
        for text in ("00", "01", "007", "1234567890123", "1/1234567890123", "1234567890123/1", "1/0", "0/0", "1/00",
                     "1/01", "01/1", "00/1", "0/01", "0000000000000", "12/0"):
            self.check(text, 1, "number")
            self.check(f"a + {text}", 5, "number")
            self.check(f"a{text}b", 2, "number")

    def test_the_first_error_counts(self):
        self.check("a A 01", 3, "character")
        self.check("a 01 A", 3, "number")
        self.check("a abcdefghijklm 01", 3, "word")
        self.check("01 abcdefghijklm", 1, "number")
        self.check("01/", 1, "number")
        self.check("1/02/", 1, "number")


if __name__ == "__main__":
    unittest.main()
