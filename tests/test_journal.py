"""Tests of consol.journal (point 70)."""

import unittest

from consol.errors import InvalidLine
from consol.journal import complete_part, lines_of, text_of
from helping import error_of

ALL = "".join(chr(code) for code in range(32, 127))
WRONG = ["\t", "\r", "\0", "\x1f", "\x7f", "\xa0", "\u00e9", "\u2028", "\x0b", "\x85"]


class Journal(unittest.TestCase):
    def test_examples(self):
        self.assertEqual((lines_of("a b\n\nc d\ne"), text_of(["a b", ""]), complete_part("a\nb")),
                         (["a b", "", "c d"], "a b\n\n", "a\n"))

    def test_edges(self):
        self.assertEqual([lines_of(text) for text in ("", "a", "\n", "a\n", "\n\n", "a\n\n")],
                         [[], [], [""], ["a"], ["", ""], ["a", ""]])
        self.assertEqual([complete_part(text) for text in ("", "a", "\n", "a\n", "\na", "a\n\nb")],
                         ["", "", "\n", "a\n", "\n", "a\n\n"])
        self.assertEqual([text_of(lines) for lines in ([], [""], ["a", " b "])], ["", "\n", "a\n b \n"])

    def test_all_characters_of_lines(self):
        self.assertEqual(lines_of(ALL + "\n"), [ALL])
        self.assertEqual(text_of([ALL, ALL]), ALL + "\n" + ALL + "\n")
        self.assertEqual(complete_part(ALL + "\n" + ALL), ALL + "\n")

    def test_lines_of_any_length(self):
        self.assertEqual(lines_of("x" * 5000 + "\n"), ["x" * 5000])

    def test_cut_off_at_every_character(self):
        lines = ["text a  b", "", "~ !", " ", "days 3"]
        text = text_of(lines)
        for at in range(len(text) + 1):
            found = lines_of(text[:at])
            self.assertEqual(found, lines[:len(found)])
            self.assertEqual(len(found), text[:at].count("\n"))
            self.assertEqual(text_of(found), complete_part(text[:at]))
            self.assertEqual(complete_part(text[:at]), text[:len(text_of(found))])
        self.assertEqual(lines_of(text), lines)

    def test_wrong_characters(self):
        for wrong in WRONG:
            for text in (f"a{wrong}\nb", f"a\n{wrong}b", f"a\nb{wrong}", f"{wrong}a\n", wrong):
                with self.subTest(text):
                    self.assertEqual(error_of(lines_of, text), (InvalidLine, {}))
                    self.assertEqual(error_of(complete_part, text), (InvalidLine, {}))
            for lines in ([f"a{wrong}b"], ["a", wrong], [f"{wrong}", "b"]):
                self.assertEqual(error_of(text_of, lines), (InvalidLine, {}))

    def test_newlines_in_lines(self):
        for lines in (["a\nb"], ["\n"], ["a", "b\n"]):
            self.assertEqual(error_of(text_of, lines), (InvalidLine, {}))

    def test_arguments_stay(self):
        lines = ["a", "b"]
        text_of(lines)
        self.assertEqual(lines, ["a", "b"])


if __name__ == "__main__":
    unittest.main()
