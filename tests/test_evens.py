"""[43] the even trail and the way "even", [8] that no folding is cheaper; [3] the asker's own."""

import random
import unittest

from helper import cells, check_trail, foldings_at_breaks, letters_of, nodes_of, short_texts, ways_from
from outweave.evens import Even, even
from outweave.spots import breaks, fits
from outweave.trails import Trail, fair, priced, walked, way_of


def free(text, wide):
    return wide - cells(text.rstrip(" "))


def squares(text, stretches, wide):
    return sum(free(text[lo:hi], wide) ** 2 for lo, hi in stretches[:-1])


def expected_moves(text, k, wide):
    """The moves from a node, word by word as the document has them."""
    letters = letters_of(text)
    ends = [place for place in breaks(letters) if place > k and fits(letters, k, place, wide)]
    if k == len(text):
        ends = []
    elif not ends:
        ends = [max(hi for hi in range(k + 1, len(text) + 1) if cells(text[k:hi]) <= wide)]
    return [(0 if end == len(text) else free(text[k:end], wide) ** 2, str(end), (end, 0)) for end in ends]


def farthest_least(trail):
    """Of all the cheapest ways the one whose lines go on farthest, first line first."""
    ways = list(ways_from(trail, trail.first_node()))
    least = min(cost for cost, names in ways)
    return max([int(name) for name in names] for cost, names in ways if cost == least)


class EvenTrail(unittest.TestCase):
    def test_nodes(self):
        trail = Even(letters_of("ab c"), 3)
        self.assertIsInstance(trail, Trail)
        self.assertEqual((trail.first_node(), trail.last_at()), ((0, 0), 4))
        self.assertEqual(nodes_of(trail), [(k, 0) for k in range(5)])
        self.assertEqual([trail.is_end(node) for node in nodes_of(trail)], [False] * 4 + [True])
        check_trail(self, trail)

    def test_moves(self):
        trail = Even(letters_of("ab c de"), 5)
        self.assertEqual(sorted(trail.moves_from((0, 0))), [(1, "5", (5, 0)), (9, "3", (3, 0))])
        self.assertEqual(sorted(trail.moves_from((3, 0))), [(0, "7", (7, 0)), (16, "5", (5, 0))])
        self.assertEqual(trail.moves_from((6, 0)), [(0, "7", (7, 0))])
        self.assertEqual(trail.moves_from((7, 0)), [])

    def test_a_word_that_is_too_long(self):
        trail = Even(letters_of("aBCde f"), 4)
        self.assertEqual(trail.moves_from((0, 0)), [(1, "2", (2, 0))])
        self.assertEqual(trail.moves_from((2, 0)), [(0, "6", (6, 0))])

    def test_blanks(self):
        trail = Even(letters_of("  a     "), 2)
        self.assertEqual(trail.moves_from((0, 0)), [(4, "2", (2, 0))])
        self.assertEqual(trail.moves_from((2, 0)), [(0, "8", (8, 0))])
        self.assertEqual(trail.moves_from((5, 0)), [(0, "8", (8, 0))])

    def test_of_no_letters(self):
        trail = Even([], 2)
        self.assertEqual((nodes_of(trail), trail.moves_from((0, 0)), way_of(trail)), ([(0, 0)], [], (0, [])))
        self.assertIs(trail.is_end((0, 0)), True)

    def test_all_short_texts(self):
        for text in short_texts("aB ", 6):
            for wide in (2, 3, 5):
                trail = Even(letters_of(text), wide)
                for k in range(len(text) + 1):
                    self.assertEqual(
                        sorted(trail.moves_from((k, 0))), sorted(expected_moves(text, k, wide)), text)

    def test_long_ones(self):
        chance = random.Random(41)
        for wide in (2, 11, 40):
            for again in range(5):
                text = "".join(chance.choices("abc D  ", k=200))
                trail = Even(letters_of(text), wide)
                check_trail(self, trail)
                for k in range(0, 201, 7):
                    self.assertEqual(sorted(trail.moves_from((k, 0))), sorted(expected_moves(text, k, wide)))
                self.assertIs(fair(trail, priced(trail)), True)

    def test_what_is_handed_in_stays_and_may_be_changed_behind(self):
        letters = letters_of("ab c")
        trail = Even(letters, 3)
        way_of(trail)
        self.assertEqual(letters, letters_of("ab c"))
        letters.clear()
        self.assertEqual(trail.last_at(), 4)
        self.assertEqual(sorted(trail.moves_from((0, 0))), [(1, "3", (3, 0))])

    def test_what_was_told_and_is_changed(self):
        trail = Even(letters_of("ab c"), 4)
        trail.moves_from((0, 0)).clear()
        trail.nodes_at(0).clear()
        self.assertEqual((len(trail.moves_from((0, 0))), trail.nodes_at(0)), (2, [(0, 0)]))


class EvenFolding(unittest.TestCase):
    def lines(self, text, wide):
        return [text[lo:hi] for lo, hi in even(letters_of(text), wide)]

    def test_of_no_letters(self):
        self.assertEqual(even([], 2), [(0, 0)])

    def test_evener_than_words(self):
        self.assertEqual(self.lines("aaa bb cc ddddd", 6), ["aaa ", "bb cc ", "ddddd"])
        self.assertEqual(self.lines("a b cccc d", 5), ["a b ", "cccc ", "d"])

    def test_the_last_line_costs_nothing(self):
        self.assertEqual(self.lines("aaaa b", 6), ["aaaa b"])
        self.assertEqual(self.lines("aa bb c", 5), ["aa bb ", "c"])

    def test_of_several_the_first_line_goes_on_farthest(self):
        self.assertEqual(self.lines("a a a", 3), ["a a ", "a"])
        self.assertEqual(self.lines("aa bb ", 2), ["aa ", "bb "])
        self.assertEqual(self.lines("a b ccc dd", 4), ["a b ", "ccc ", "dd"])

    def test_one_line(self):
        self.assertEqual(self.lines("ab", 2), ["ab"])
        self.assertEqual(self.lines(" " * 200, 2), [" " * 200])
        self.assertEqual(self.lines("a" * 40, 40), ["a" * 40])

    def test_words_that_are_too_long(self):
        self.assertEqual(self.lines("abcdefgh", 3), ["abc", "def", "gh"])
        self.assertEqual(self.lines("ABA", 3), ["A", "B", "A"])
        self.assertEqual(self.lines("a bcde f", 3), ["a ", "bcd", "e f"])

    def test_no_folding_at_breaking_places_is_cheaper(self):
        texts = list(short_texts("aB ", 7)) + ["a bb ccc dd e ff", "aa b c dddd ee f", "a  b ccc d   e ff  "]
        for text in texts:
            for wide in (3, 4, 6):
                rows = list(foldings_at_breaks(letters_of(text), wide))
                if rows:
                    told = even(letters_of(text), wide)
                    least = min(squares(text, row, wide) for row in rows)
                    self.assertIn(told, rows, text)
                    self.assertEqual(squares(text, told, wide), least, text)
                    self.assertEqual(told, max(row for row in rows if squares(text, row, wide) == least), text)

    def test_it_is_the_farthest_of_the_cheapest_ways(self):
        for text in list(short_texts("aB ", 6)) + ["abcdefg h i jk", "a b c d e f g", "aaaaa bb B ccc  d"]:
            for wide in (2, 3, 4):
                trail = Even(letters_of(text), wide)
                ends = farthest_least(trail)
                told = even(letters_of(text), wide)
                self.assertEqual(told, list(zip([0] + ends, ends)) or [(0, 0)], text)
                names = [str(end) for end in ends]
                self.assertEqual(walked(trail, names), priced(trail)[(0, 0)])

    def test_long_ones(self):
        chance = random.Random(43)
        for wide in (2, 9, 40):
            text = "".join(chance.choices("abcd  E", k=200))
            told = even(letters_of(text), wide)
            names = [str(hi) for lo, hi in told]
            trail = Even(letters_of(text), wide)
            self.assertEqual(walked(trail, names), priced(trail)[(0, 0)])

    def test_letters_of_one_thing(self):
        self.assertEqual(even([("a",), (" ",), ("B",)], 2), [(0, 2), (2, 3)])

    def test_the_askers_own(self):
        letters = letters_of("ab cd")
        even(letters, 3).clear()
        even([], 3).clear()
        self.assertEqual((even(letters, 3), even([], 3)), ([(0, 3), (3, 5)], [(0, 0)]))
        self.assertEqual(letters, letters_of("ab cd"))


if __name__ == "__main__":
    unittest.main()
