"""[25] the look of letters and their cells, [3] the asker's own."""

import unittest

from outweave.letters import cells_of, look


class Look(unittest.TestCase):
    def test_letters(self):
        letters = [("a", "b", "c", 0), ("B", ".", "h", 4), ("[", "a", ".", 5)]
        self.assertEqual(look(letters), [("a", "b", "c"), ("B", ".", "h"), ("[", "a", ".")])

    def test_a_blank_shows_no_ink(self):
        for ink in "abcdefgh.":
            for ground in "abcdefgh.":
                self.assertEqual(look([(" ", ink, ground, 3)]), [(" ", ".", ground)])

    def test_each_other_sign_shows_its_ink(self):
        for code in range(33, 126):
            self.assertEqual(look([(chr(code), "d", "e", 1)]), [(chr(code), "d", "e")])

    def test_three_and_more_things(self):
        letters = [("a", "b", "c"), (" ", "b", "c"), ("d", "e", "f", 1, None, "x"), (" ", "e", "f", 1, 2)]
        self.assertEqual(look(letters), [
            ("a", "b", "c"), (" ", ".", "c"), ("d", "e", "f"), (" ", ".", "f")])

    def test_of_no_letters(self):
        self.assertEqual(look([]), [])

    def test_of_a_look(self):
        told = look([("a", "b", "c", 0), (" ", "b", "c", 1)])
        self.assertEqual(look(told), told)

    def test_a_list_of_tuples(self):
        told = look([("a", "b", "c", 0), (" ", "b", "c", 1)])
        self.assertIs(type(told), list)
        self.assertEqual([type(thing) for thing in told], [tuple, tuple])


class CellsOf(unittest.TestCase):
    def test_great_letters_take_two(self):
        self.assertEqual(cells_of([]), 0)
        self.assertEqual(cells_of([("a", ".", ".", 0)]), 1)
        self.assertEqual(cells_of([("A", ".", ".", 0)]), 2)
        self.assertEqual(cells_of([("Z", ".", ".")]), 2)
        self.assertEqual(cells_of([(sign, "a", "b", 0) for sign in "aB [Z@"]), 8)

    def test_blanks_count(self):
        self.assertEqual(cells_of([(" ", "a", ".", 0), (" ", ".", ".", 1)]), 2)

    def test_many(self):
        self.assertEqual(cells_of([("Q", ".", ".", k) for k in range(200)]), 400)

    def test_three_and_more_things(self):
        self.assertEqual(cells_of([("A", "b", "c"), ("d", "e", "f", 1, "X", "Y")]), 3)


class AskersOwn(unittest.TestCase):
    def test_what_is_handed_in_stays(self):
        letters = [("a", "b", "c", 0), (" ", "b", "c", 1)]
        look(letters)
        cells_of(letters)
        self.assertEqual(letters, [("a", "b", "c", 0), (" ", "b", "c", 1)])

    def test_what_is_told_is_new(self):
        letters = [("a", "b", "c"), (" ", ".", "c")]
        told = look(letters)
        self.assertIsNot(told, letters)
        told.append("more")
        told[0] = None
        self.assertEqual(letters, [("a", "b", "c"), (" ", ".", "c")])
        self.assertEqual(look(letters), letters)

    def test_changed_behind_the_call(self):
        letters = [("a", "b", "c", 0)]
        told = look(letters)
        letters.append(("x", "b", "c", 1))
        letters[0] = ("y", "b", "c", 0)
        self.assertEqual(told, [("a", "b", "c")])

    def test_of_no_letters_told_anew(self):
        told = look([])
        told.append("more")
        self.assertEqual(look([]), [])


if __name__ == "__main__":
    unittest.main()
