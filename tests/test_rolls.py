"""[51], [52], [6] the roll; [3] the asker's own, [5] that what is refused changes nothing."""

import random
import unittest

from helper import OTHER_KINDS, Odd, letters_of, refused, some_pieces, some_text, whole_parts, woven
from outweave.errors import Closed, NoHand, NoName, NoSign, NoSize, Twice
from outweave.rolls import Roll
from outweave.shades import shaded, unshaded
from outweave.unrolls import unroll

SIX = ["a", "bb", "ccc", "dddd", "eeeeeeee", "f"]


def fed(roll, pieces):
    rows = []
    for name, piece in pieces:
        rows += roll.close(name) if piece is None else roll.feed(name, piece)
    return rows


class Rows(unittest.TestCase):
    def test_a_row_for_each_part(self):
        roll = Roll(["ann", "bo"], 200)
        self.assertEqual(roll.feed("ann", "one"), [])
        self.assertEqual(roll.feed("bo", "two\nthree\n\nfo"), ["bo |two", "bo |three", "bo |"])
        self.assertEqual(roll.feed("ann", "\n"), ["ann|one"])
        self.assertEqual(roll.told_rows(), ["bo |two", "bo |three", "bo |", "ann|one"])

    def test_more(self):
        roll = Roll(["ann"], 3)
        self.assertEqual(roll.feed("ann", "abcdefg\nh"), ["ann>abc", "ann>def", "ann|g"])
        self.assertEqual(roll.close("ann"), ["ann|h"])

    def test_a_most_of_one_and_of_two_hundred(self):
        self.assertEqual(Roll(["x"], 1).feed("x", "ab\n"), ["x>a", "x|b"])
        self.assertEqual(Roll(["x"], 200).feed("x", "a" * 201), ["x>" + "a" * 200])

    def test_names_are_filled_to_the_longest(self):
        roll = Roll(list(SIX), 9)
        for name in SIX:
            self.assertEqual(roll.feed(name, "hi\n"), [name + " " * (8 - len(name)) + "|hi"])

    def test_one_name(self):
        self.assertEqual(Roll(["abcdefgh"], 9).feed("abcdefgh", " x\n"), ["abcdefgh| x"])

    def test_shaded(self):
        roll = Roll(["ann"], 200)
        self.assertEqual(roll.feed("ann", "[b][a]x [c] [a]y\n"), ["ann|[a]x  y[]"])
        self.assertEqual(roll.feed("ann", "[a\n"), ["ann|[[a"])

    def test_colours_go_on_beyond_more_but_each_row_is_plain_by_itself(self):
        roll = Roll(["ann"], 1)
        self.assertEqual(roll.feed("ann", "[a]xyz\n"), ["ann>[a]x[]", "ann>[a]y[]", "ann|[a]z[]"])

    def test_numbers(self):
        roll = Roll(["ann", "b"], 200, True)
        rows = roll.feed("ann", "x\n" * 9) + roll.feed("b", "y\nz\n")
        self.assertEqual(rows, ["%d ann|x" % k for k in range(1, 10)] + ["10 b  |y", "11 b  |z"])
        self.assertEqual(Roll(["b"], 200, numbered=True).feed("b", "\n"), ["1 b|"])
        self.assertEqual(Roll(["b"], 200, numbered=False).feed("b", "\n"), ["b|"])

    def test_numbers_count_over_more_and_closes(self):
        roll = Roll(["ann"], 1, True)
        self.assertEqual(roll.feed("ann", "ab"), ["1 ann>a"])
        self.assertEqual(roll.close("ann"), ["2 ann|b"])

    def test_anew(self):
        roll = Roll(["ann"], 200)
        self.assertEqual(roll.feed("ann", "10\t20\t\n"), ["ann|20"])


class Held(unittest.TestCase):
    def test_what_is_held_back(self):
        roll = Roll(["ann", "bo"], 200)
        self.assertEqual(roll.held_of("ann"), ("", []))
        roll.feed("ann", "ab[/c")
        self.assertEqual(roll.held_of("ann"), ("[/c", letters_of("ab")))
        self.assertEqual(roll.held_of("bo"), ("", []))
        roll.feed("ann", "]d")
        self.assertEqual(roll.held_of("ann"), ("", letters_of("ab") + [("d", ".", "c", 6)]))
        roll.feed("ann", "\n[")
        self.assertEqual(roll.held_of("ann"), ("[", []))

    def test_another_hand_between(self):
        roll = Roll(["ann", "bo"], 200)
        roll.feed("ann", "x[")
        roll.feed("bo", "a]\n")
        self.assertEqual(roll.feed("ann", "a]y\n"), ["ann|x[a]y[]"])
        self.assertEqual(roll.told_rows()[0], "bo |a]")


class Close(unittest.TestCase):
    def test_with_something_held_back(self):
        roll = Roll(["ann"], 200)
        roll.feed("ann", "x[/b")
        self.assertEqual(roll.close("ann"), ["ann|x[[/b"])

    def test_with_something_held_back_that_goes_beyond_the_most(self):
        roll = Roll(["ann"], 2)
        roll.feed("ann", "x[/b")
        self.assertEqual(roll.close("ann"), ["ann>x[[", "ann|/b"])

    def test_with_a_part_open(self):
        for text, row in (("ab", "ann|ab"), ("x\nab\t", "ann|ab"), ("[a]b", "ann|[a]b[]")):
            roll = Roll(["ann"], 200)
            roll.feed("ann", text)
            self.assertEqual(roll.close("ann"), [row])

    def test_behind_more_without_letters(self):
        roll = Roll(["ann"], 1)
        roll.feed("ann", "ab\t[a]")
        self.assertEqual(roll.close("ann"), ["ann|"])

    def test_nothing_is_told(self):
        for text in ("", "ab\n", "[a]", "ab\t[]", "\n"):
            roll = Roll(["ann"], 200)
            count = len(roll.feed("ann", text))
            self.assertEqual(roll.close("ann"), [])
            self.assertEqual(len(roll.told_rows()), count)

    def test_behind_it_nothing_is_held(self):
        roll = Roll(["ann"], 200)
        roll.feed("ann", "ab[")
        roll.close("ann")
        self.assertEqual(roll.held_of("ann"), ("", []))

    def test_other_hands_go_on(self):
        roll = Roll(["ann", "bo"], 200)
        roll.feed("bo", "x")
        roll.close("ann")
        self.assertEqual(roll.feed("bo", "y\n"), ["bo |xy"])


class WovenRolls(unittest.TestCase):
    def check(self, texts, most, numbered, chance):
        names = list(texts)
        roll = Roll(names, most, numbered)
        rows = fed(roll, woven(chance, texts))
        self.assertEqual(roll.told_rows(), rows)
        self.assertEqual(unroll(names, rows, numbered), {
            name: whole_parts(text, most) for name, text in texts.items()})
        for row in rows:
            self.assertIsNotNone(unshaded(row.partition("|" if "|" in row else ">")[2]))

    def test_whatever_the_weaving_and_the_cutting(self):
        chance = random.Random(6)
        for again in range(60):
            names = chance.sample(SIX, chance.randint(1, 6))
            texts = {name: some_text(chance, chance.choice([0, 1, 9, 60, 150])) for name in names}
            self.check(texts, chance.choice([1, 2, 5, 40, 200]), chance.random() < 0.5, chance)

    def test_great_texts(self):
        chance = random.Random(7)
        for most in (1, 200):
            self.check({name: some_text(chance, 3000) for name in SIX[:2]}, most, True, chance)

    def test_rows_are_the_same_however_a_text_is_cut(self):
        chance = random.Random(8)
        for again in range(40):
            text = some_text(chance, 80)
            rows = fed(Roll(["ann"], 7), [("ann", text), ("ann", None)])
            for cut in range(3):
                pieces = [("ann", piece) for piece in some_pieces(chance, text)]
                self.assertEqual(fed(Roll(["ann"], 7), pieces + [("ann", None)]), rows)

    def test_each_row_is_the_least(self):
        chance = random.Random(9)
        text = some_text(chance, 400).replace("|", "").replace(">", "")
        for row in fed(Roll(["ann"], 30), [("ann", text), ("ann", None)]):
            self.assertEqual(shaded(unshaded(row[4:])), row[4:])


class RefusedNames(unittest.TestCase):
    def test_no_list_of_one_to_six_things(self):
        for names in [[], ("a",), "a", "abc", {"a": 1}, None, True, 3, Odd(), SIX + ["g"], ["a"] * 7, [1] * 7]:
            refused(self, NoName, Roll, names, 200)

    def test_what_is_no_name(self):
        for name in ["", "Ann", "a b", "a1", "abcdefghi", "~", 1, Odd(), ["a"]] + OTHER_KINDS:
            if not (isinstance(name, str) and name == "a"):
                refused(self, NoName, Roll, [name], 200)
                refused(self, NoName, Roll, ["a", name], 200)

    def test_twice(self):
        self.assertEqual(refused(self, Twice, Roll, ["a", "b", "a"], 200).name, "a")
        self.assertEqual(refused(self, Twice, Roll, ["a", "b", "b", "a"], 200).name, "b")

    def test_thing_by_thing(self):
        self.assertEqual(refused(self, Twice, Roll, ["a", "a", "B"], 200).name, "a")
        refused(self, NoName, Roll, ["a", "B", "a"], 200)

    def test_mosts(self):
        for most in [0, 201, -1, Odd()] + OTHER_KINDS:
            refused(self, NoSize, Roll, ["a"], most)

    def test_names_come_ahead_of_the_most(self):
        refused(self, NoName, Roll, [], 0)
        refused(self, NoName, Roll, ["A"], True)
        refused(self, Twice, Roll, ["a", "a"], 0)


class RefusedPieces(unittest.TestCase):
    def test_no_hand(self):
        roll = Roll(["ann"], 200)
        for name in ["bo", "an", "annn", "Ann", "~", Odd(), ["ann"], ("ann",)] + OTHER_KINDS:
            self.assertIs(refused(self, NoHand, roll.feed, name, "~").name, name)
            self.assertIs(refused(self, NoHand, roll.close, name).name, name)
            self.assertIs(refused(self, NoHand, roll.held_of, name).name, name)

    def test_closed(self):
        roll = Roll(["ann", "bo"], 200)
        roll.close("ann")
        for piece in ("", "x", "~", None, True):
            self.assertEqual(refused(self, Closed, roll.feed, "ann", piece).name, "ann")
        self.assertEqual(refused(self, Closed, roll.close, "ann").name, "ann")
        refused(self, NoHand, roll.close, "cy")
        self.assertEqual(roll.close("bo"), [])

    def test_no_sign(self):
        roll = Roll(["ann"], 200)
        roll.feed("ann", "abcdef")
        self.assertEqual(refused(self, NoSign, roll.feed, "ann", "ab~").at, 2)
        for piece in OTHER_KINDS + [Odd()]:
            if not isinstance(piece, str):
                self.assertEqual(refused(self, NoSign, roll.feed, "ann", piece).at, 0)

    def test_a_refused_piece_amid_a_text_that_goes_on(self):
        chance = random.Random(5)
        for again in range(30):
            text = some_text(chance, 60)
            roll, other = Roll(["ann", "bo"], 4, True), Roll(["ann", "bo"], 4, True)
            for piece in some_pieces(chance, text):
                refused(self, NoSign, roll.feed, "ann", piece + "~x\n")
                refused(self, NoSign, roll.feed, "bo", "\n~")
                refused(self, NoHand, roll.feed, "cy", piece)
                self.assertEqual(roll.held_of("ann"), other.held_of("ann"))
                self.assertEqual(roll.feed("ann", piece), other.feed("ann", piece))
            self.assertEqual(roll.close("ann"), other.close("ann"))
            refused(self, Closed, roll.feed, "ann", "x\n")
            self.assertEqual(roll.told_rows(), other.told_rows())


class AskersOwn(unittest.TestCase):
    def test_names_stay_and_may_be_changed_behind(self):
        names = ["ann", "b"]
        roll = Roll(names, 200)
        roll.feed("b", "x\n")
        self.assertEqual(names, ["ann", "b"])
        names.append("longname")
        names[0] = "cy"
        self.assertEqual(roll.feed("ann", "x\n"), ["ann|x"])
        refused(self, NoHand, roll.feed, "cy", "x")

    def test_what_was_told_and_is_changed(self):
        roll = Roll(["ann"], 200, True)
        roll.feed("ann", "a\nb\nc").append("more")
        roll.told_rows().clear()
        roll.held_of("ann")[1].clear()
        self.assertEqual(roll.held_of("ann"), ("", [("c", ".", ".", 4)]))
        self.assertEqual(roll.told_rows(), ["1 ann|a", "2 ann|b"])
        kept = roll.told_rows()
        roll.close("ann").append("more")
        self.assertEqual(kept, ["1 ann|a", "2 ann|b"])
        self.assertEqual(roll.told_rows(), ["1 ann|a", "2 ann|b", "3 ann|c"])

    def test_kinds(self):
        roll = Roll(["ann"], 200)
        self.assertEqual((type(roll.feed("ann", "a[")), type(roll.told_rows())), (list, list))
        self.assertIs(type(roll.held_of("ann")), tuple)
        self.assertEqual([type(thing) for thing in roll.held_of("ann")], [str, list])

    def test_two_rolls_have_nothing_in_common(self):
        one, other = Roll(["ann"], 200), Roll(["ann"], 200)
        one.feed("ann", "a\nb[")
        one.close("ann")
        self.assertEqual((other.told_rows(), other.held_of("ann")), ([], ("", [])))
        self.assertEqual(other.feed("ann", "x\n"), ["ann|x"])


if __name__ == "__main__":
    unittest.main()
