"""[41], [42] foldings and the ways "cut", "cells" and "words"; [3] the asker's own."""

import random
import unittest

from helper import OTHER_KINDS, Odd, cells, foldings_at_breaks, letters_of, refused, short_texts
from outweave.errors import NoSize
from outweave.evens import even
from outweave.folds import fold
from outweave.spots import breaks

WAYS = ["cut", "cells", "words", "even"]


def lines(text, wide, way):
    return [text[lo:hi] for lo, hi in fold(letters_of(text), wide, way)]


def longest(text, wide):
    return max(k for k in range(len(text) + 1) if cells(text[:k]) <= wide)


def expected_words(text, wide):
    """The lines of "words", by looking at each breaking place of what is left."""
    told = []
    while text:
        places = [k for k in breaks(letters_of(text)) if cells(text[:k].rstrip(" ")) <= wide]
        end = max(places) if places else longest(text, wide)
        told.append(text[:end])
        text = text[end:]
    return told or [""]


def expected_cells(text, wide):
    told = []
    while text:
        told.append(text[:longest(text, wide)])
        text = text[len(told[-1]):]
    return told or [""]


class Ways(unittest.TestCase):
    def test_no_letters(self):
        for way in WAYS:
            for wide in (2, 3, 40):
                self.assertEqual(fold([], wide, way), [(0, 0)])

    def test_cut(self):
        self.assertEqual(lines("abcdef", 4, "cut"), ["abcd"])
        self.assertEqual(lines("abc", 4, "cut"), ["abc"])
        self.assertEqual(lines("ab cd", 4, "cut"), ["ab c"])
        self.assertEqual(lines("ab    ", 4, "cut"), ["ab  "])
        self.assertEqual(lines("abcD", 4, "cut"), ["abc"])
        self.assertEqual(lines("aBC", 4, "cut"), ["aB"])

    def test_cells(self):
        self.assertEqual(lines("abcdefg", 3, "cells"), ["abc", "def", "g"])
        self.assertEqual(lines("ab cd e", 3, "cells"), ["ab ", "cd ", "e"])
        self.assertEqual(lines("abc   d", 3, "cells"), ["abc", "   ", "d"])
        self.assertEqual(lines("abCdE", 3, "cells"), ["ab", "Cd", "E"])
        self.assertEqual(lines("ABC", 3, "cells"), ["A", "B", "C"])
        self.assertEqual(lines("     ", 2, "cells"), ["  ", "  ", " "])

    def test_words(self):
        self.assertEqual(lines("ab cd ef", 5, "words"), ["ab cd ", "ef"])
        self.assertEqual(lines("ab cd ef", 4, "words"), ["ab ", "cd ", "ef"])
        self.assertEqual(lines("a b c d", 3, "words"), ["a b ", "c d"])

    def test_words_longer_than_the_breadth(self):
        self.assertEqual(lines("abcdefgh", 3, "words"), ["abc", "def", "gh"])
        self.assertEqual(lines("a bcdefg h", 3, "words"), ["a ", "bcd", "efg ", "h"])
        self.assertEqual(lines("abcd  ef", 3, "words"), ["abc", "d  ", "ef"])
        self.assertEqual(lines("abcd e", 3, "words"), ["abc", "d e"])
        self.assertEqual(lines("aBC", 4, "words"), ["aB", "C"])

    def test_words_with_blanks_that_hang(self):
        self.assertEqual(lines("abc      def", 3, "words"), ["abc      ", "def"])
        self.assertEqual(lines("abc     ", 3, "words"), ["abc     "])
        self.assertEqual(lines(" " * 200, 2, "words"), [" " * 200])

    def test_words_with_blanks_at_the_beginning(self):
        self.assertEqual(lines("  ab", 4, "words"), ["  ab"])
        self.assertEqual(lines("  ab", 3, "words"), ["  ", "ab"])
        self.assertEqual(lines("      ab", 2, "words"), ["      ", "ab"])

    def test_great_letters_at_the_edge(self):
        self.assertEqual(lines("ab C", 4, "words"), ["ab ", "C"])
        self.assertEqual(lines("ab C", 5, "words"), ["ab C"])

    def test_the_bounds(self):
        self.assertEqual(lines("a" * 81, 40, "cells"), ["a" * 40, "a" * 40, "a"])
        self.assertEqual(lines("a" * 81, 40, "words"), ["a" * 40, "a" * 40, "a"])
        self.assertEqual(lines("A" * 3, 2, "cells"), ["A"] * 3)
        self.assertEqual(lines("aAa", 2, "words"), ["a", "A", "a"])
        self.assertEqual(len(lines("aB " * 66 + "aB", 2, "cells")), 200 - 66)

    def test_even_is_that_of_evens(self):
        for text in ("", "ab cd ef gh", "abcdefgh ij", "  a  B c "):
            for wide in (2, 5, 40):
                self.assertEqual(fold(letters_of(text), wide, "even"), even(letters_of(text), wide))

    def test_letters_of_one_thing(self):
        for way in WAYS:
            self.assertEqual(fold([("a",), (" ",), ("B",)], 40, way), [(0, 3)])


class AllShort(unittest.TestCase):
    def test_against_the_plain_telling(self):
        for text in short_texts("aB ", 6):
            for wide in (2, 3, 4, 5):
                self.assertEqual(lines(text, wide, "words"), expected_words(text, wide), text)
                self.assertEqual(lines(text, wide, "cells"), expected_cells(text, wide), text)
                self.assertEqual(lines(text, wide, "cut"), [text[:longest(text, wide)]], text)

    def test_long_ones(self):
        chance = random.Random(42)
        for again in range(60):
            text = "".join(chance.choices("ab  C", k=chance.choice([30, 199, 200])))
            for wide in (2, 7, 19, 40):
                self.assertEqual(lines(text, wide, "words"), expected_words(text, wide))
                self.assertEqual(lines(text, wide, "cells"), expected_cells(text, wide))

    def test_end_to_end(self):
        for text in short_texts("aB ", 5):
            for way in ("cells", "words", "even"):
                self.assertEqual("".join(lines(text, 3, way)), text)
                self.assertTrue(text == "" or all(lines(text, 3, way)))

    def test_no_folding_at_breaking_places_has_fewer_lines_than_words(self):
        for text in short_texts("ab  ", 7):
            letters = letters_of(text)
            counts = [len(stretches) for stretches in foldings_at_breaks(letters, 3)]
            if counts:
                self.assertEqual(len(fold(letters, 3, "words")), min(counts), text)


class Refused(unittest.TestCase):
    def test_breadths(self):
        for wide in [1, 0, -2, 41, 10 ** 9, Odd()] + OTHER_KINDS:
            for way in WAYS:
                refused(self, NoSize, fold, letters_of("ab"), wide, way)
                refused(self, NoSize, fold, [], wide, way)

    def test_ways(self):
        for way in ["", "Cut", "cut ", "word", "evens", 3, Odd(), ["cut"], ("cut",)] + OTHER_KINDS:
            refused(self, NoSize, fold, letters_of("ab"), 5, way)
            refused(self, NoSize, fold, [], 5, way)


class AskersOwn(unittest.TestCase):
    def test_letters_stay(self):
        for way in WAYS:
            letters = letters_of("ab cd  e")
            fold(letters, 3, way)
            self.assertEqual(letters, letters_of("ab cd  e"))

    def test_what_was_told_and_is_changed(self):
        for way in WAYS:
            letters = letters_of("ab cd  e")
            first = fold(letters, 3, way)
            self.assertIs(type(first), list)
            self.assertEqual({type(stretch) for stretch in first}, {tuple})
            kept = list(first)
            first.clear()
            fold([], 3, way).append((7, 7))
            self.assertEqual(fold(letters, 3, way), kept)
            self.assertEqual(fold([], 3, way), [(0, 0)])


if __name__ == "__main__":
    unittest.main()
