"""[53] to unroll; [3] the asker's own."""

import unittest

from helper import OTHER_KINDS, Odd, refused
from outweave.errors import NoRoll
from outweave.rolls import Roll
from outweave.unrolls import unroll


def plain(text):
    return [(sign, ".", ".") for sign in text]


class Read(unittest.TestCase):
    def test_for_each_name_in_order(self):
        told = unroll(["ann", "b", "cy"], ["b  |x", "ann>yz", "b  |", "ann|w"])
        self.assertIs(type(told), dict)
        self.assertEqual(list(told.items()), [
            ("ann", [(plain("yz"), "more"), (plain("w"), "whole")]),
            ("b", [(plain("x"), "whole"), ([], "whole")]), ("cy", [])])

    def test_no_rows(self):
        self.assertEqual(unroll(["a"], []), {"a": []})
        self.assertEqual(unroll(["a"], [], True), {"a": []})

    def test_numbered(self):
        rows = ["%d ab|x" % k for k in range(1, 13)]
        self.assertEqual(unroll(["ab"], rows, True), {"ab": [(plain("x"), "whole")] * 12})
        self.assertEqual(unroll(["ab"], rows[:3], numbered=True), {"ab": [(plain("x"), "whole")] * 3})

    def test_looks(self):
        told = unroll(["a"], ["a|[b]x [/c]y[]", "a>|[[>"])
        self.assertEqual(told["a"], [
            ([("x", "b", "."), (" ", ".", "."), ("y", "b", "c")], "whole"), (plain("|[>"), "more")])

    def test_texts_that_are_not_the_least(self):
        self.assertEqual(unroll(["a"], ["a|[b][c][.]x[]"]), {"a": [(plain("x"), "whole")]})

    def test_texts_that_no_roll_has_room_for(self):
        self.assertEqual(unroll(["a"], ["a>" + "x" * 1000]), {"a": [(plain("x" * 1000), "more")]})

    def test_names_alike_at_their_beginnings(self):
        self.assertEqual(unroll(["a", "aa", "aaa"], ["aa |x", "a  |y", "aaa|z"]), {
            "a": [(plain("y"), "whole")], "aa": [(plain("x"), "whole")], "aaa": [(plain("z"), "whole")]})

    def test_signs_of_words_in_the_text(self):
        self.assertEqual(unroll(["a"], ["a||", "a>|", "a|>"])["a"], [
            (plain("|"), "whole"), (plain("|"), "more"), (plain(">"), "whole")])


class Wrong(unittest.TestCase):
    def wrong_at(self, names, rows, numbered=False):
        return refused(self, NoRoll, unroll, names, rows, numbered).at

    def test_no_text(self):
        for thing in OTHER_KINDS + [Odd(), ["a|x"], ("a|x",)]:
            if not isinstance(thing, str):
                self.assertEqual(self.wrong_at(["a"], ["a|x", thing]), 1)

    def test_the_first_wrong_row(self):
        self.assertEqual(self.wrong_at(["a"], ["", "a|x", ""]), 0)
        self.assertEqual(self.wrong_at(["a"], ["a|x", "a|y", "", "", "a|z"]), 2)

    def test_heads(self):
        for row in ("", "a", "abc", "abc x", "ab |x", "abcd|x", "x  |x", "a  x|", "a |x", "a   |x", "a|x", "|x",
                    " a |x", "Abc|x", "abc/x", "abc:x", " abc|x", "a\n |x", "a\t |x", "abc"):
            self.assertEqual(self.wrong_at(["abc", "a"], ["abc|", row]), 1, row)

    def test_numbers(self):
        for row in ("a|x", "1 a|x", "3 a|x", "02 a|x", "2  a|x", "2a|x", " 2 a|x", "+2 a|x", "2", "2 ", "2.0 a|x",
                    "2 b|x", "2\na|x", "22 a|x"):
            self.assertEqual(self.wrong_at(["a"], ["1 a|x", row], True), 1, row)
        self.assertEqual(self.wrong_at(["a"], ["0 a|x"], True), 0)
        self.assertEqual(self.wrong_at(["a"], ["1 a|x"]), 0)
        self.assertEqual(self.wrong_at(["a"], ["%d a|" % k for k in range(1, 10)] + ["1 a|"], True), 9)

    def test_ends(self):
        for end in ("~", "x~", "\n", "x\n", "\t", "x\ty", "[a]", "[/b]x", "[a]x[/.]", "\n~"):
            for sign in "|>":
                self.assertEqual(self.wrong_at(["a"], ["a|", "a" + sign + end]), 1, end)


class AskersOwn(unittest.TestCase):
    def test_what_is_handed_in_stays(self):
        names, rows = ["ann", "b"], ["ann|x", "b  >y"]
        unroll(names, rows)
        self.assertEqual((names, rows), (["ann", "b"], ["ann|x", "b  >y"]))

    def test_what_was_told_and_is_changed(self):
        rows = ["a|x", "a|x"]
        told = unroll(["a", "b"], rows)
        told["a"][0][0].clear()
        told["b"].append("more")
        told["c"] = []
        self.assertEqual(told["a"][1], (plain("x"), "whole"))
        self.assertEqual(unroll(["a", "b"], rows), {"a": [(plain("x"), "whole")] * 2, "b": []})

    def test_kinds(self):
        part = unroll(["a"], ["a|x"])["a"][0]
        self.assertEqual((type(part), type(part[0]), type(part[0][0])), (tuple, list, tuple))

    def test_the_rows_of_a_roll(self):
        roll = Roll(["a", "bb"], 3, True)
        roll.feed("a", "[c]abcd\n")
        roll.feed("bb", "[[[/a]x")
        roll.close("bb")
        self.assertEqual(unroll(["a", "bb"], roll.told_rows(), True), {
            "a": [([(sign, "c", ".") for sign in "abc"], "more"), ([("d", "c", ".")], "whole")],
            "bb": [([("[", ".", "."), ("x", ".", "a")], "whole")]})


if __name__ == "__main__":
    unittest.main()
