"""[63] the lines of a hand in a room; [3] the asker's own."""

import random
import unittest

from helper import cells, letters_of, signs_of
from outweave.folds import fold
from outweave.views import lines_of

WAYS = ["cut", "cells", "words", "even"]


def part_of(text, word="whole"):
    return (letters_of(text), word)


def lines(texts, rest, tall, broad, way):
    room = ("ann", 0, 0, tall, broad, way)
    return [signs_of(line) for line in lines_of([part_of(text) for text in texts], letters_of(rest), room)]


def expected_lines(texts, rest, tall, broad, way):
    told = []
    for text in texts + ([rest] if rest else []):
        for lo, hi in fold(letters_of(text), broad, way):
            line = text[lo:hi]
            while cells(line) > broad:
                line = line[:-1]
            told.append(line)
    return told[max(0, len(told) - tall):]


class Lines(unittest.TestCase):
    def test_parts_one_behind_another(self):
        self.assertEqual(lines(["ab", "cd"], "", 5, 4, "cut"), ["ab", "cd"])
        self.assertEqual(lines(["ab", "cdefg"], "", 5, 3, "cells"), ["ab", "cde", "fg"])

    def test_nothing(self):
        for way in WAYS:
            self.assertEqual(lines([], "", 3, 4, way), [])

    def test_a_part_without_letters_has_one_line(self):
        for way in WAYS:
            self.assertEqual(lines(["", "a", "", ""], "", 9, 4, way), ["", "a", "", ""])

    def test_the_open_part(self):
        for way in WAYS:
            self.assertEqual(lines(["a"], "bc", 3, 4, way), ["a", "bc"])
            self.assertEqual(lines(["a"], "", 3, 4, way), ["a"])
            self.assertEqual(lines([], " ", 3, 4, way), [" "])

    def test_the_last_ones_are_shown(self):
        self.assertEqual(lines(["a", "b", "c"], "", 2, 4, "cut"), ["b", "c"])
        self.assertEqual(lines(["a", "b", "c"], "d", 3, 4, "cut"), ["b", "c", "d"])
        self.assertEqual(lines(["abcdefgh"], "", 2, 3, "cells"), ["def", "gh"])
        self.assertEqual(lines(["a", "b"], "cdefghij", 2, 2, "cells"), ["gh", "ij"])
        self.assertEqual(lines(["abc", ""], "", 1, 4, "words"), [""])
        self.assertEqual(lines(["a", "b"], "", 1, 4, "even"), ["b"])

    def test_a_line_is_counted_whole_though_the_part_begins_ahead(self):
        self.assertEqual(lines(["ab cd ef"], "x", 3, 2, "words"), ["cd", "ef", "x"])

    def test_each_way(self):
        text = "aaa bb cc ddddd"
        self.assertEqual(lines([text], "", 9, 6, "cut"), ["aaa bb"])
        self.assertEqual(lines([text], "", 9, 6, "cells"), ["aaa bb", " cc dd", "ddd"])
        self.assertEqual(lines([text], "", 9, 6, "words"), ["aaa bb", "cc ", "ddddd"])
        self.assertEqual(lines([text], "", 9, 6, "even"), ["aaa ", "bb cc ", "ddddd"])

    def test_blanks_that_hang(self):
        self.assertEqual(lines(["abc   de"], "", 9, 3, "words"), ["abc", "de"])
        self.assertEqual(lines(["ab    de"], "", 9, 3, "words"), ["ab ", "de"])
        self.assertEqual(lines(["      "], "", 9, 3, "even"), ["   "])

    def test_great_letters_at_the_edge(self):
        for way in ("cells", "words", "even"):
            self.assertEqual(lines(["ABC"], "", 9, 3, way), ["A", "B", "C"])
        self.assertEqual(lines(["abC"], "", 9, 3, "cut"), ["ab"])
        self.assertEqual(lines(["A   b"], "", 9, 2, "words"), ["A", "b"])

    def test_letters_are_told_whole(self):
        letters = [("a", "b", "c", 7), (" ", "d", ".", 9)]
        self.assertEqual(lines_of([(letters, "more")], letters, ("x", 3, 5, 2, 4, "cut")), [letters, letters])

    def test_against_the_plain_telling(self):
        chance = random.Random(63)
        for again in range(400):
            texts = ["".join(chance.choices("ab C ", k=chance.choice([0, 1, 5, 20]))) for k in range(again % 6)]
            rest = "".join(chance.choices("ab C ", k=chance.choice([0, 3, 30])))
            tall, broad, way = chance.randint(1, 12), chance.choice([2, 3, 7, 40]), chance.choice(WAYS)
            self.assertEqual(
                lines(texts, rest, tall, broad, way), expected_lines(texts, rest, tall, broad, way))


class AskersOwn(unittest.TestCase):
    def test_what_is_handed_in_stays(self):
        for way in WAYS:
            parts, letters = [part_of("ab cd"), part_of("")], letters_of("e f")
            lines_of(parts, letters, ("a", 0, 0, 2, 2, way))
            self.assertEqual((parts, letters), ([part_of("ab cd"), part_of("")], letters_of("e f")))

    def test_what_was_told_and_is_changed(self):
        for way in WAYS:
            parts, letters = [part_of("ab"), part_of("")], letters_of("cd")
            told = lines_of(parts, letters, ("a", 0, 0, 9, 9, way))
            for line in told:
                line.append("more")
            told.clear()
            self.assertEqual((parts, letters), ([part_of("ab"), part_of("")], letters_of("cd")))
            self.assertEqual(lines_of(parts, letters, ("a", 0, 0, 9, 9, way)), [
                letters_of("ab"), [], letters_of("cd")])

    def test_what_is_changed_behind_the_call(self):
        parts, letters = [part_of("ab")], letters_of("cd")
        told = lines_of(parts, letters, ("a", 0, 0, 9, 9, "words"))
        parts[0][0].clear()
        letters.clear()
        self.assertEqual(told, [letters_of("ab"), letters_of("cd")])


if __name__ == "__main__":
    unittest.main()
