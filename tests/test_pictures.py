"""[71] pictures, and what is drawn into a room; [3] the asker's own."""

import unittest

from helper import letters_of
from outweave.pictures import blank, drawn

NONE = (" ", ".", ".")


def signs(picture):
    return ["".join(cell[0] or "_" for cell in row) for row in picture]


class Blank(unittest.TestCase):
    def test_blank_cells(self):
        self.assertEqual(blank(1, 2), [[NONE, NONE]])
        self.assertEqual(blank(12, 40), [[NONE] * 40] * 12)

    def test_each_row_by_itself(self):
        picture = blank(2, 2)
        picture[0][0] = ("x", ".", ".")
        picture[1].append(NONE)
        self.assertEqual(picture, [[("x", ".", "."), NONE], [NONE, NONE, NONE]])
        self.assertEqual(blank(2, 2), [[NONE, NONE], [NONE, NONE]])


class Drawn(unittest.TestCase):
    def test_from_the_left_of_the_room(self):
        told = drawn(blank(4, 6), ("a", 1, 2, 2, 3, "cut"), [letters_of("ab"), letters_of("cde")])
        self.assertEqual(signs(told), ["      ", "  ab  ", "  cde ", "      "])

    def test_cells(self):
        line = [("x", "a", "b", 0), (" ", "c", "d", 1), ("Y", "e", "f", 2)]
        self.assertEqual(drawn(blank(1, 5), ("a", 0, 0, 1, 5, "cut"), [line]), [
            [("x", "a", "b"), (" ", ".", "d"), ("Y", "e", "f"), ("", "e", "f"), NONE]])

    def test_great_letters(self):
        told = drawn(blank(1, 8), ("a", 0, 1, 1, 6, "cut"), [letters_of("ABC")])
        self.assertEqual(signs(told), [" A_B_C_ "])

    def test_great_letters_at_the_rooms_edge(self):
        told = drawn(blank(2, 4), ("a", 0, 1, 2, 3, "cut"), [letters_of("aB"), letters_of("B")])
        self.assertEqual(signs(told), [" aB_", " B_ "])

    def test_what_is_not_drawn_is_blank(self):
        full = drawn(blank(3, 4), ("a", 0, 0, 3, 4, "cut"), [letters_of("AB")] * 3)
        self.assertEqual(signs(drawn(full, ("a", 0, 0, 3, 4, "cut"), [letters_of("xy")])), ["xy  ", "    ", "    "])
        self.assertEqual(drawn(full, ("a", 0, 0, 3, 4, "cut"), []), blank(3, 4))
        self.assertEqual(drawn(full, ("a", 0, 0, 3, 4, "cut"), [[], [], []]), blank(3, 4))

    def test_other_cells_stay(self):
        full = drawn(blank(3, 6), ("a", 0, 0, 3, 6, "cut"), [letters_of("abcdef")] * 3)
        self.assertEqual(signs(drawn(full, ("b", 1, 2, 1, 2, "cut"), [letters_of("x")])), [
            "abcdef", "abx ef", "abcdef"])
        full = drawn(blank(3, 6), ("a", 0, 0, 3, 6, "cut"), [letters_of(text) for text in ("abcdef", "ghijkl", "mNOp")])
        self.assertEqual(signs(drawn(full, ("b", 1, 3, 2, 2, "cut"), [letters_of("x"), letters_of("yz")])), [
            "abcdef", "ghix l", "mN_yzp"])

    def test_each_room_of_several(self):
        picture = drawn(blank(2, 6), ("a", 0, 0, 2, 3, "cut"), [letters_of("A"), letters_of("b")])
        picture = drawn(picture, ("b", 0, 3, 2, 3, "cut"), [letters_of("cD"), letters_of("efg")])
        self.assertEqual(signs(picture), ["A_ cD_", "b  efg"])

    def test_letters_of_three_things(self):
        self.assertEqual(drawn(blank(1, 2), ("a", 0, 0, 1, 2, "cut"), [[("x", "a", "b")]]), [[("x", "a", "b"), NONE]])


class AskersOwn(unittest.TestCase):
    def test_what_is_handed_in_stays(self):
        picture, lines = blank(2, 3), [letters_of("ab"), letters_of("C")]
        drawn(picture, ("a", 0, 0, 2, 3, "cut"), lines)
        self.assertEqual((picture, lines), (blank(2, 3), [letters_of("ab"), letters_of("C")]))

    def test_what_was_told_and_is_changed(self):
        picture, lines = blank(3, 3), [letters_of("ab")]
        told = drawn(picture, ("a", 0, 0, 1, 3, "cut"), lines)
        for row in told:
            row.clear()
        told.clear()
        self.assertEqual((picture, lines), (blank(3, 3), [letters_of("ab")]))
        self.assertEqual(signs(drawn(picture, ("a", 0, 0, 1, 3, "cut"), lines)), ["ab ", "   ", "   "])

    def test_what_is_changed_behind_the_call(self):
        picture, lines = blank(2, 3), [letters_of("ab")]
        told = drawn(picture, ("a", 0, 0, 1, 3, "cut"), lines)
        picture[1].clear()
        lines[0].clear()
        self.assertEqual(signs(told), ["ab ", "   "])

    def test_kinds(self):
        for picture in (blank(2, 3), drawn(blank(2, 3), ("a", 0, 0, 1, 3, "cut"), [letters_of("aB")])):
            self.assertIs(type(picture), list)
            self.assertEqual({type(row) for row in picture}, {list})
            self.assertEqual({type(cell) for row in picture for cell in row}, {tuple})


if __name__ == "__main__":
    unittest.main()
