"""[91], [93] figures and words."""

import unittest

from helper import OTHER_KINDS, Odd, refused, short_texts
from outweave.errors import NoRow
from outweave.texts import is_figures, words_of


class Figures(unittest.TestCase):
    def test_numbers(self):
        for number in list(range(2000)) + [99999, 100000, 123456, 999999]:
            self.assertIs(is_figures(str(number)), True)

    def test_a_nought_ahead(self):
        for text in ("00", "01", "007", "000000", "012345", "00000"):
            self.assertIs(is_figures(text), False)
        self.assertIs(is_figures("0"), True)

    def test_seven_figures(self):
        for text in ("1000000", "1234567", "0000000", "9" * 3000):
            self.assertIs(is_figures(text), False)

    def test_other_signs(self):
        for text in ("", " ", "-1", "+1", "1 ", " 1", "1.0", "1e3", "a", "1a", "a1", "1_0", "0x1", "1\n", "\n",
                     "\u0661", "\u00b2", "\uff11", "/", ":", "1/", "1:"):
            self.assertIs(is_figures(text), False, text)

    def test_other_kinds(self):
        for thing in OTHER_KINDS + [Odd(), 0, 1, 12, ["1"], ("1", "2"), b"1"]:
            if not (isinstance(thing, str) and thing == "1"):
                self.assertIs(is_figures(thing), False)


class Words(unittest.TestCase):
    def test_words(self):
        self.assertEqual(words_of("a"), ["a"])
        self.assertEqual(words_of("screen 3 8"), ["screen", "3", "8"])
        self.assertEqual(words_of("~ [a] B\n\tc"), ["~", "[a]", "B\n\tc"])
        self.assertEqual(words_of("\n"), ["\n"])

    def test_blanks(self):
        for row in ("", " ", "  ", " a", "a ", "a  b", " a b", "a b ", "a b  c", "a   b"):
            refused(self, NoRow, words_of, row)

    def test_all_short_rows(self):
        for row in short_texts("ab ", 6):
            if row == "" or row[0] == " " or row[-1] == " " or "  " in row:
                refused(self, NoRow, words_of, row)
            else:
                self.assertEqual(words_of(row), row.split())

    def test_no_text(self):
        for thing in OTHER_KINDS + [Odd(), 0, ["a"], ("a", "b")]:
            if not isinstance(thing, str):
                refused(self, NoRow, words_of, thing)

    def test_the_askers_own(self):
        words_of("a b").clear()
        self.assertEqual(words_of("a b"), ["a", "b"])
        self.assertIs(type(words_of("a b")), list)


if __name__ == "__main__":
    unittest.main()
