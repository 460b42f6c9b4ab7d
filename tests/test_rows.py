"""[21], [22], [23], [24] rows of letters, their parts, the anew sign and the finish; [3] the asker's own."""

import random
import unittest

from helper import OTHER_KINDS, Odd, letters_of, refused, short_texts, signs_of
from outweave.errors import NoSign, NoSize
from outweave.marks import items_of
from outweave.rows import Maker, rows_of

WRONG_MOSTS = [0, -1, 201, 10 ** 9, Odd()] + OTHER_KINDS


def put_all(maker, text):
    return [part for item in items_of(text) for part in maker.put(item)]


def shown(parts):
    return [(signs_of(letters), word) for letters, word in parts]


def told(text, most=200):
    parts, rest = rows_of(text, most)
    return shown(parts), signs_of(rest)


def expected_rows(text, most):
    """Parts and open letters once more: each row in one list, its parts by where they begin."""
    parts, row, start, stale, ink, ground = [], [], 0, False, ".", "."
    for place, kind, value in items_of(text):
        if kind == "end":
            parts.append((row[start:], "whole"))
            row, start, stale, ink, ground = [], 0, False, ".", "."
            continue
        if kind == "anew":
            stale, ink, ground = True, ".", "."
            continue
        if stale:
            row, stale = row[:start], False
        if kind == "sign":
            if len(row) - start == most:
                parts.append((row[start:], "more"))
                start = len(row)
            row = row + [(value, ink, ground, place)]
        ink = value if kind == "ink" else "." if kind == "plain" else ink
        ground = value if kind == "ground" else "." if kind == "plain" else ground
    return parts, row[start:]


class Letters(unittest.TestCase):
    def test_a_letter_has_sign_ink_ground_and_place(self):
        parts, rest = rows_of("a[b]c[/d]e[[\n", 200)
        self.assertEqual(parts, [([
            ("a", ".", ".", 0), ("c", "b", ".", 4), ("e", "b", "d", 9), ("[", "b", "d", 10)], "whole")])
        self.assertEqual(rest, [])

    def test_each_mark_changes_what_follows(self):
        rest = rows_of("[a][/b]1[.]2[/.]3[c]4[/d]5[]6", 200)[1]
        self.assertEqual([letter[1:3] for letter in rest], [
            ("a", "b"), (".", "b"), (".", "."), ("c", "."), ("c", "d"), (".", ".")])

    def test_each_row_begins_plain(self):
        parts, rest = rows_of("[a][/b]x\ny[c]\nz", 200)
        self.assertEqual(parts, [([("x", "a", "b", 7)], "whole"), ([("y", ".", ".", 9)], "whole")])
        self.assertEqual(rest, [("z", ".", ".", 14)])

    def test_a_blank_keeps_its_ink(self):
        self.assertEqual(rows_of("[a] ", 5)[1], [(" ", "a", ".", 3)])

    def test_a_bracket_that_is_held_at_the_end_is_a_letter(self):
        self.assertEqual(rows_of("a[/b", 200), ([], letters_of("a[/b")))


class Parts(unittest.TestCase):
    def test_row_ends(self):
        self.assertEqual(told(""), ([], ""))
        self.assertEqual(told("\n"), ([("", "whole")], ""))
        self.assertEqual(told("\n\n\na\n\n"), ([("", "whole")] * 3 + [("a", "whole"), ("", "whole")], ""))
        self.assertEqual(told("ab\ncd"), ([("ab", "whole")], "cd"))
        self.assertEqual(told("[a][/b]\n"), ([("", "whole")], ""))

    def test_a_full_part_is_told_by_a_further_sign(self):
        self.assertEqual(told("abc", 3), ([], "abc"))
        self.assertEqual(told("abcd", 3), ([("abc", "more")], "d"))
        self.assertEqual(told("abcdefg", 3), ([("abc", "more"), ("def", "more")], "g"))
        self.assertEqual(told("abc\n", 3), ([("abc", "whole")], ""))
        self.assertEqual(told("abcd\n", 3), ([("abc", "more"), ("d", "whole")], ""))

    def test_a_full_part_is_not_told_by_a_mark(self):
        self.assertEqual(told("ab[c][/d][]", 2), ([], "ab"))
        self.assertEqual(told("ab[c]\n", 2), ([("ab", "whole")], ""))

    def test_ink_and_ground_stay_beyond_more(self):
        parts, rest = rows_of("[a][/b]xy[c]z", 1)
        self.assertEqual(parts, [([("x", "a", "b", 7)], "more"), ([("y", "a", "b", 8)], "more")])
        self.assertEqual(rest, [("z", "c", "b", 12)])

    def test_a_most_of_one(self):
        self.assertEqual(told("ab\nc", 1), ([("a", "more"), ("b", "whole")], "c"))

    def test_a_most_of_two_hundred(self):
        self.assertEqual(told("a" * 200), ([], "a" * 200))
        self.assertEqual(told("a" * 200 + "b\n"), ([("a" * 200, "more"), ("b", "whole")], ""))
        parts, rest = told("x" * 3000)
        self.assertEqual((parts, rest), ([("x" * 200, "more")] * 14, "x" * 200))

    def test_the_part_of_a_full_great_row_counts_letters_not_cells(self):
        self.assertEqual(told("ABC", 3), ([], "ABC"))


class Anew(unittest.TestCase):
    def test_behind_it_a_row_end_tells_what_was_there(self):
        self.assertEqual(told("abc\t\n"), ([("abc", "whole")], ""))
        self.assertEqual(told("abc\t\t\t\n"), ([("abc", "whole")], ""))

    def test_a_mark_behind_it_empties(self):
        for mark in ("[a]", "[.]", "[/b]", "[/.]", "[]"):
            self.assertEqual(told("abc\t" + mark + "\n"), ([("", "whole")], ""), mark)

    def test_a_sign_behind_it_empties(self):
        self.assertEqual(told("abc\td"), ([], "d"))
        self.assertEqual(told("abc\t d\n"), ([(" d", "whole")], ""))
        self.assertEqual(told("abc\t\t\td\te\n"), ([("e", "whole")], ""))
        self.assertEqual(told("abc\t[["), ([], "["))

    def test_once_emptied_it_is_not_stale(self):
        self.assertEqual(told("abc\tde"), ([], "de"))
        self.assertEqual(told("abc\t[a]de"), ([], "de"))

    def test_it_makes_plain(self):
        self.assertEqual(rows_of("[a][/b]x\ty", 9)[1], [("y", ".", ".", 9)])
        self.assertEqual(rows_of("[a][/b]x\t[c]y", 9)[1], [("y", "c", ".", 12)])

    def test_the_letters_that_stay_keep_their_colours(self):
        self.assertEqual(rows_of("[a]x\t\n", 9)[0], [([("x", "a", ".", 3)], "whole")])

    def test_a_row_end_ends_staleness(self):
        self.assertEqual(told("ab\t\ncd"), ([("ab", "whole")], "cd"))
        self.assertEqual(told("\t\n\t\nab"), ([("", "whole"), ("", "whole")], "ab"))

    def test_several_behind_one_another(self):
        self.assertEqual(told("a\t\n\n\tb\t\t\n\n"), (
            [("a", "whole"), ("", "whole"), ("b", "whole"), ("", "whole")], ""))

    def test_what_was_told_stays(self):
        self.assertEqual(told("abc\tx", 2), ([("ab", "more")], "x"))
        self.assertEqual(told("abc\t[a]\n", 2), ([("ab", "more"), ("", "whole")], ""))

    def test_full_and_stale(self):
        self.assertEqual(told("ab\tc", 2), ([], "c"))
        self.assertEqual(told("ab\tcde", 2), ([("cd", "more")], "e"))
        self.assertEqual(told("ab\t\n", 2), ([("ab", "whole")], ""))
        self.assertEqual(told("a\tb\tc", 1), ([], "c"))
        self.assertEqual(told("ab\tc", 1), ([("a", "more")], "c"))

    def test_open_letters_of_a_stale_part_until_it_is_emptied(self):
        maker = Maker(5)
        seen = []
        for item in items_of("ab\t\t[c]d"):
            maker.put(item)
            seen.append(signs_of(maker.open_letters()))
        self.assertEqual(seen, ["a", "ab", "ab", "ab", "", "d"])


class GoingOn(unittest.TestCase):
    def test_behind_each_item(self):
        maker = Maker(2)
        seen = [maker.going_on()]
        for item in items_of("ab[a]cd\t[a]\nefg"):
            maker.put(item)
            seen.append(maker.going_on())
        self.assertEqual(seen, [False] * 4 + [True] * 4 + [False] * 3 + [True])

    def test_put_tells_none_or_one(self):
        maker = Maker(1)
        counts = [len(maker.put(item)) for item in items_of("ab\n\n\tc\td[a]e")]
        self.assertEqual(counts, [0, 1, 1, 1, 0, 0, 0, 0, 0, 1])


class Finish(unittest.TestCase):
    def finished(self, text, most=200):
        maker = Maker(most)
        put_all(maker, text)
        parts = maker.finish()
        self.assertIs(maker.going_on(), False)
        self.assertEqual(maker.open_letters(), [])
        return maker, shown(parts)

    def test_when_it_tells(self):
        self.assertEqual(self.finished("a")[1], [("a", "whole")])
        self.assertEqual(self.finished("a", 1)[1], [("a", "whole")])
        self.assertEqual(self.finished("ab")[1], [("ab", "whole")])
        self.assertEqual(self.finished("x\nab")[1], [("ab", "whole")])
        self.assertEqual(self.finished("ab\t")[1], [("ab", "whole")])
        self.assertEqual(self.finished("abc", 2)[1], [("c", "whole")])

    def test_behind_more_without_letters(self):
        self.assertEqual(self.finished("abc\t[a]", 2)[1], [("", "whole")])

    def test_behind_more_and_stale(self):
        self.assertEqual(self.finished("abc\t", 2)[1], [("c", "whole")])

    def test_when_nothing_is_told(self):
        for text in ("", "\n", "ab\n", "[a]", "\t", "ab\t[a]", "ab\t[]", "ab\n[/a]\t", "\n\n"):
            self.assertEqual(self.finished(text)[1], [], text)
        self.assertEqual(self.finished("abc\n", 2)[1], [])

    def test_the_next_row_begins_plain_and_not_stale(self):
        for text in ("[a][/b]x", "[a][/b]", "x\t", "\t", "[a]xyz\t", "[a]xyz"):
            maker = self.finished(text, 2)[0]
            self.assertEqual(maker.put((9, "sign", "q")), [])
            self.assertEqual(maker.put((10, "sign", "r")), [])
            self.assertEqual(maker.open_letters(), [("q", ".", ".", 9), ("r", ".", ".", 10)], text)

    def test_twice(self):
        maker = self.finished("abc", 2)[0]
        self.assertEqual(maker.finish(), [])


class Whole(unittest.TestCase):
    def test_all_short_texts(self):
        for text in short_texts("ab\n\t", 6):
            for most in (1, 2, 3):
                self.assertEqual(rows_of(text, most), expected_rows(text, most), text)

    def test_short_texts_with_marks(self):
        bits = ["x", "y", "[a]", "[/b]", "[]", "\n", "\t", "[["]
        for row in short_texts("01234567", 4):
            text = "".join(bits[int(bit)] for bit in row)
            for most in (1, 2):
                self.assertEqual(rows_of(text, most), expected_rows(text, most), text)

    def test_long_texts(self):
        chance = random.Random(21)
        bits = ["x", "Y", " ", "q", "[a]", "[/b]", "[]", "\n", "\t", "[[", "["]
        for most in (1, 2, 7, 50, 200):
            for weight in (1, 5, 60):
                weights = [weight] * 4 + [1] * 7
                text = "".join(chance.choices(bits, weights, k=1500))[:3000]
                self.assertEqual(rows_of(text, most), expected_rows(text, most))

    def test_a_maker_fed_item_by_item(self):
        text = "[a]one\ntwo\tthree[/c] four\n\n"
        maker = Maker(3)
        parts = put_all(maker, text)
        self.assertEqual((parts, maker.open_letters()), rows_of(text, 3))


class Refused(unittest.TestCase):
    def test_mosts(self):
        for most in WRONG_MOSTS:
            refused(self, NoSize, Maker, most)
            refused(self, NoSize, rows_of, "a", most)

    def test_the_mosts_that_are_taken(self):
        for most in (1, 2, 199, 200):
            self.assertEqual(Maker(most).open_letters(), [])

    def test_no_sign(self):
        self.assertEqual(refused(self, NoSign, rows_of, "ab~", 5).at, 2)
        self.assertEqual(refused(self, NoSign, rows_of, None, 5).at, 0)
        self.assertEqual(refused(self, NoSign, rows_of, True, 5).at, 0)

    def test_no_size_comes_first(self):
        refused(self, NoSize, rows_of, "ab~", 0)
        refused(self, NoSize, rows_of, None, True)


class AskersOwn(unittest.TestCase):
    def test_a_part_that_was_told_and_is_changed(self):
        maker = Maker(2)
        parts = put_all(maker, "abc")
        parts[0][0].clear()
        parts.append("more")
        self.assertEqual(signs_of(maker.open_letters()), "c")
        self.assertEqual(shown(maker.put((3, "end", ""))), [("c", "whole")])

    def test_a_part_that_was_told_stays_as_it_was(self):
        maker = Maker(2)
        parts = put_all(maker, "ab\n")
        maker.put((3, "sign", "c"))
        maker.put((4, "anew", ""))
        maker.put((5, "sign", "d"))
        self.assertEqual(shown(parts), [("ab", "whole")])

    def test_open_letters_that_are_changed(self):
        maker = Maker(2)
        put_all(maker, "a")
        maker.open_letters().append(("z", ".", ".", 7))
        maker.open_letters().clear()
        self.assertEqual(maker.open_letters(), letters_of("a"))
        held = maker.open_letters()
        put_all(maker, "b")
        self.assertEqual(held, letters_of("a"))

    def test_lists_without_parts(self):
        maker = Maker(2)
        maker.put((0, "sign", "a")).append("more")
        maker.put((1, "anew", "")).append("more")
        self.assertEqual(maker.put((2, "ink", "a")), [])
        maker.finish().append("more")
        self.assertEqual(maker.finish(), [])

    def test_rows_of_told_again(self):
        first = rows_of("ab\nc", 5)
        first[0][0][0].clear()
        first[0].clear()
        first[1].clear()
        self.assertEqual(rows_of("ab\nc", 5), ([(letters_of("ab"), "whole")], [("c", ".", ".", 3)]))

    def test_kinds(self):
        parts, rest = rows_of("ab\nc", 1)
        self.assertEqual((type(parts), type(rest)), (list, list))
        for part in parts:
            self.assertEqual((type(part), type(part[0]), type(part[1])), (tuple, list, str))
            self.assertEqual([type(letter) for letter in part[0]], [tuple])
        self.assertIs(type(rows_of("", 1)), tuple)

    def test_two_makers_have_nothing_in_common(self):
        one, other = Maker(2), Maker(2)
        put_all(one, "[a]abc\t")
        self.assertEqual((other.open_letters(), other.going_on(), other.finish()), ([], False, []))


if __name__ == "__main__":
    unittest.main()
