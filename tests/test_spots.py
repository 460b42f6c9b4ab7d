"""[41], [42] what fits, and the breaking places; [3] the asker's own."""

import unittest

from helper import letters_of, short_texts
from outweave.spots import breaks, fits


def expected_fits(text, wide):
    return len("".join(sign * (2 if sign.isupper() else 1) for sign in text.rstrip(" "))) <= wide


class Fits(unittest.TestCase):
    def fits(self, text, wide):
        return fits(letters_of(text), 0, len(text), wide)

    def test_ordinary_lines(self):
        self.assertIs(self.fits("abc", 3), True)
        self.assertIs(self.fits("abcd", 3), False)
        self.assertIs(self.fits("a c", 3), True)
        self.assertIs(self.fits("a  d", 3), False)

    def test_no_letters(self):
        self.assertIs(fits([], 0, 0, 2), True)
        self.assertIs(fits(letters_of("abc"), 2, 2, 2), True)

    def test_blanks_at_the_end_hang(self):
        self.assertIs(self.fits("abc    ", 3), True)
        self.assertIs(self.fits("abcd ", 3), False)

    def test_blanks_alone(self):
        self.assertIs(self.fits(" " * 50, 2), True)

    def test_blanks_at_the_beginning_count(self):
        self.assertIs(self.fits("  a", 2), False)
        self.assertIs(self.fits("  a", 3), True)

    def test_great_letters_at_the_edge(self):
        self.assertIs(self.fits("aB", 3), True)
        self.assertIs(self.fits("abB", 3), False)
        self.assertIs(self.fits("B" * 20, 40), True)
        self.assertIs(self.fits("B" * 20 + "b", 40), False)

    def test_just_the_stretch(self):
        letters = letters_of("abcdef gh")
        self.assertIs(fits(letters, 4, 7, 2), True)
        self.assertIs(fits(letters, 3, 7, 2), False)
        self.assertIs(fits(letters, 7, 9, 2), True)

    def test_all_stretches_of_short_texts(self):
        for text in short_texts("aB ", 4):
            letters = letters_of(text)
            for lo in range(len(text) + 1):
                for hi in range(lo, len(text) + 1):
                    for wide in (2, 3, 4):
                        self.assertIs(fits(letters, lo, hi, wide), expected_fits(text[lo:hi], wide))

    def test_letters_of_one_thing(self):
        self.assertIs(fits([("a",), ("B",), (" ",)], 0, 3, 3), True)

    def test_letters_stay(self):
        letters = letters_of("ab  ")
        fits(letters, 0, 4, 2)
        self.assertEqual(letters, letters_of("ab  "))


class Breaks(unittest.TestCase):
    def breaks(self, text):
        return breaks(letters_of(text))

    def test_ordinary_texts(self):
        self.assertEqual(self.breaks("ab cd"), [3, 5])
        self.assertEqual(self.breaks("ab  cd e"), [4, 7, 8])
        self.assertEqual(self.breaks("abc"), [3])

    def test_no_letters(self):
        self.assertEqual(breaks([]), [])

    def test_blanks(self):
        self.assertEqual(self.breaks(" "), [1])
        self.assertEqual(self.breaks("   "), [3])
        self.assertEqual(self.breaks("ab  "), [4])
        self.assertEqual(self.breaks("  ab"), [2, 4])
        self.assertEqual(self.breaks("a b "), [2, 4])

    def test_all_short_texts(self):
        for text in short_texts("aB ", 6):
            expected = [k for k in range(1, len(text)) if text[k - 1] == " " != text[k]]
            self.assertEqual(self.breaks(text), expected + [len(text)] * (text != ""))

    def test_letters_of_one_thing(self):
        self.assertEqual(breaks([("a",), (" ",), ("b",)]), [2, 3])

    def test_the_askers_own(self):
        letters = letters_of("a b")
        breaks(letters).clear()
        breaks([]).append(9)
        self.assertEqual((breaks(letters), breaks([])), ([2, 3], []))
        self.assertEqual(letters, letters_of("a b"))


if __name__ == "__main__":
    unittest.main()
