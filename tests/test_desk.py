"""[91], [92], [93] the desk, [6], [7] the whole; [5] that what is refused changes nothing."""

import random
import unittest

from helper import OTHER_KINDS, Odd, refused, some_text, whole_parts, woven
from outweave.boards import Board
from outweave.desk import Desk
from outweave.errors import Closed, NoCell, NoHand, NoRoom, NoRow, NoSign, NoSize
from outweave.leads import led
from outweave.patches import cost_of
from outweave.rolls import Roll
from outweave.rooms import Plan
from outweave.shades import shade_cost, shaded, unshaded

BEGINNING = ["screen 3 8", "room ann 0 0 2 4 cells", "room bo 1 4 2 4 words"]
AHEAD = ["screen 3 8", "room cy 0 4 1 2 cut", "most 5", "keep 5", "numbered", "begin"]
BEHIND = ["say ann x", "say ann ", "end ann", "anew ann", "close ann", "row 0", "cost 0", "led 0 0", "gone ann",
          "back ann", "rows", "patch"]


def desk_of(*rows):
    desk = Desk()
    for row in rows:
        desk.say(row)
    return desk


def begun(*rows):
    return desk_of(*BEGINNING, *rows, "begin")


def state_of(desk, names=("ann", "bo"), high=3, wide=8):
    """All that a desk that has begun can be asked."""
    rows = ["rows", "patch"] + ["%s %d" % (word, row) for row in range(high) for word in ("row", "cost")]
    rows += ["%s %s" % (word, name) for name in names for word in ("gone", "back")]
    rows += ["led %d %d" % (row, col) for row in range(high) for col in range(wide)]
    return [desk.say(row) for row in rows]


class AheadOfBegin(unittest.TestCase):
    def test_each_is_answered_ok(self):
        desk = Desk()
        for row in ["screen 3 8", "room ann 0 0 2 4 cells", "most 5", "keep 5", "numbered", "begin"]:
            self.assertEqual(desk.say(row), "ok", row)

    def test_in_whatever_order_and_again(self):
        desk = Desk()
        for row in ("numbered", "keep 3", "room bo 1 4 2 4 words", "numbered", "screen 1 2", "most 0", "keep 0",
                    "room ann 0 0 2 4 cells", "most 2", "screen 3 8", "keep 1", "begin"):
            self.assertEqual(desk.say(row), "ok", row)
        self.assertEqual(desk.say("say ann abc"), "1 ann>ab")
        self.assertEqual(desk.say("say bo x\ny\n"), "2 bo |x\n3 bo |y")
        self.assertEqual((desk.say("gone bo"), desk.say("gone ann")), ("1", "0"))

    def test_numbers_that_begin_refuses_are_taken_ahead(self):
        for row in ("screen 0 0", "screen 999999 999999", "most 0", "most 999999", "keep 0", "keep 51",
                    "room ann 0 0 0 0 cut", "room ann 999999 0 1 2 even"):
            self.assertEqual(Desk().say(row), "ok", row)

    def test_without_such_a_row(self):
        desk = begun()
        self.assertEqual(desk.say("say ann " + "x" * 200), "none")
        self.assertEqual(desk.say("say ann y"), "ann>" + "x" * 200)
        for row in range(60):
            desk.say("end bo")
        self.assertEqual(desk.say("gone bo"), "10")
        refused(self, NoSize, desk_of("room ann 0 0 1 2 cut").say, "begin")

    def test_each_way(self):
        rows = {"cut": ["aaa bb", " " * 6, " " * 6], "cells": ["aaa bb", " cc dd", "ddd   "],
                "words": ["aaa bb", "cc    ", "ddddd "], "even": ["aaa   ", "bb cc ", "ddddd "]}
        for way in rows:
            desk = desk_of("screen 3 6", "room a 0 0 3 6 " + way, "begin", "say a aaa bb cc ddddd")
            self.assertEqual([desk.say("row %d" % row) for row in range(3)], rows[way])


class Begin(unittest.TestCase):
    def test_what_the_plan_refuses(self):
        refused(self, NoSize, Desk().say, "begin")
        refused(self, NoSize, desk_of("screen 13 8").say, "begin")
        refused(self, NoSize, desk_of("screen 3 1", "room a 0 0 9 9 cut").say, "begin")
        self.assertEqual(refused(self, NoRoom, desk_of("screen 3 8").say, "begin").at, 0)
        self.assertEqual(refused(self, NoRoom, desk_of(*BEGINNING, "room ann 2 0 1 2 cut").say, "begin").at, 2)
        self.assertEqual(refused(self, NoRoom, desk_of(*BEGINNING, "room cy 2 7 1 2 cut").say, "begin").at, 2)
        self.assertEqual(refused(self, NoRoom, desk_of("screen 3 8", "room a 0 0 1 1 cut").say, "begin").at, 0)

    def test_six_rooms_and_a_seventh(self):
        rooms = ["room %s 0 %d 1 2 cut" % (name, 2 * k) for k, name in enumerate("abcdefg")]
        self.assertEqual(desk_of("screen 1 14", *rooms[:6]).say("begin"), "ok")
        self.assertEqual(refused(self, NoRoom, desk_of("screen 1 14", *rooms).say, "begin").at, 6)

    def test_what_the_board_refuses(self):
        for row in ("most 0", "most 201", "keep 0", "keep 51"):
            refused(self, NoSize, desk_of(*BEGINNING, row).say, "begin")

    def test_the_bounds_are_taken(self):
        for rows in (("most 1", "keep 1"), ("most 200", "keep 50"), ("screen 12 40",)):
            self.assertEqual(desk_of(*BEGINNING, *rows).say("begin"), "ok")

    def test_the_plan_comes_first(self):
        refused(self, NoRoom, desk_of("screen 3 8", "most 0", "keep 0").say, "begin")

    def test_refused_and_then_made_good(self):
        desk = desk_of("numbered", "most 0")
        refused(self, NoSize, desk.say, "begin")
        self.assertEqual(desk.say("screen 3 8"), "ok")
        refused(self, NoRoom, desk.say, "begin")
        refused(self, NoRow, desk.say, "rows")
        self.assertEqual(desk.say("room ann 0 0 1 2 cut"), "ok")
        refused(self, NoSize, desk.say, "begin")
        self.assertEqual(desk.say("most 1"), "ok")
        self.assertEqual(desk.say("begin"), "ok")
        self.assertEqual(desk.say("say ann ab"), "1 ann>a")

    def test_told_twice(self):
        desk = begun()
        desk.say("say ann x")
        refused(self, NoRow, desk.say, "begin")
        self.assertEqual(desk.say("end ann"), "ann|x")


class Told(unittest.TestCase):
    def test_rows_of_the_roll(self):
        desk = begun()
        self.assertEqual(desk.say("say ann hi"), "none")
        self.assertEqual(desk.say("end ann"), "ann|hi")
        self.assertEqual(desk.say("say bo a\nb\n\nc"), "bo |a\nbo |b\nbo |")
        self.assertEqual(desk.say("close bo"), "bo |c")
        self.assertEqual(desk.say("close ann"), "none")

    def test_a_text_without_signs(self):
        desk = begun()
        self.assertEqual(desk.say("say ann "), "none")
        self.assertEqual(desk.say("end ann"), "ann|")

    def test_blanks_at_both_ends_of_a_text(self):
        desk = begun()
        desk.say("say ann  a b  ")
        self.assertEqual(desk.say("end ann"), "ann| a b  ")
        desk.say("say ann    ")
        self.assertEqual(desk.say("end ann"), "ann|   ")

    def test_row_ends_and_anew_signs_in_a_text(self):
        desk = begun()
        self.assertEqual(desk.say("say ann \n\ta\tb\t\n"), "ann|\nann|b")

    def test_anew(self):
        desk = begun()
        desk.say("say ann abc")
        self.assertEqual(desk.say("anew ann"), "none")
        self.assertEqual(desk.say("row 0"), "abc     ")
        desk.say("say ann x")
        self.assertEqual(desk.say("row 0"), "x       ")

    def test_marks_go_on_from_row_to_row(self):
        desk = begun()
        desk.say("say ann [")
        desk.say("say bo x")
        desk.say("say ann a]y")
        self.assertEqual(desk.say("end ann"), "ann|[a]y[]")

    def test_what_is_held_back_and_a_close(self):
        desk = begun()
        desk.say("say ann a[/")
        self.assertEqual(desk.say("row 0"), "a       ")
        self.assertEqual(desk.say("close ann"), "ann|a[[/")
        self.assertEqual(desk.say("row 0"), "a[[/     ")

    def test_a_text_that_looks_like_a_row(self):
        desk = begun()
        desk.say("say ann say bo x")
        self.assertEqual(desk.say("end ann"), "ann|say bo x")


class Asked(unittest.TestCase):
    def test_row_and_cost(self):
        desk = begun()
        desk.say("say ann [a]x[/b] Y")
        self.assertEqual(unshaded(desk.say("row 0")), [
            ("x", "a", "."), (" ", ".", "b"), ("Y", "a", "b")] + [(" ", ".", ".")] * 4)
        self.assertEqual(desk.say("cost 0"), "9")
        self.assertEqual((desk.say("row 2"), desk.say("cost 2")), (" " * 8, "0"))

    def test_a_bracket_costs_nothing(self):
        desk = begun()
        desk.say("say ann [[x")
        self.assertEqual((desk.say("row 0"), desk.say("cost 0")), ("[[x      ", "0"))

    def test_led(self):
        desk = begun()
        desk.say("say ann [a]xY")
        desk.say("say bo a b")
        self.assertEqual([desk.say("led 0 %d" % col) for col in range(8)], [
            "ann 3", "ann 4", "ann 4"] + ["none"] * 5)
        self.assertEqual([desk.say("led 1 %d" % col) for col in range(4, 8)], ["bo 0", "bo 1", "bo 2", "none"])

    def test_gone(self):
        desk = begun("keep 1")
        self.assertEqual(desk.say("gone ann"), "0")
        desk.say("say ann a\nb\nc\n")
        self.assertEqual((desk.say("gone ann"), desk.say("gone bo")), ("2", "0"))

    def test_back(self):
        for numbered in ((), ("numbered",)):
            desk = begun("most 3", *numbered)
            self.assertEqual(desk.say("back ann"), "none")
            desk.say("say ann [a]abcd\n\nx")
            desk.say("say bo y\n")
            self.assertEqual(desk.say("back ann"), "more [a]abc[]\nwhole [a]d[]\nwhole ")
            self.assertEqual(desk.say("back bo"), "whole y")
            desk.say("close ann")
            self.assertEqual(desk.say("back ann"), "more [a]abc[]\nwhole [a]d[]\nwhole \nwhole x")

    def test_rows(self):
        desk = begun()
        self.assertEqual(desk.say("rows"), "0")
        desk.say("say ann a\nb\n")
        desk.say("end bo")
        self.assertEqual(desk.say("rows"), "3")

    def test_patch(self):
        desk = begun()
        self.assertEqual(desk.say("patch"), "0")
        desk.say("say ann ab")
        self.assertEqual((desk.say("patch"), desk.say("patch")), ("6", "6"))
        refused(self, NoSign, desk.say, "say ann ~")
        refused(self, NoRow, desk.say, "say ann")
        refused(self, NoHand, desk.say, "end cy")
        desk.say("row 0")
        self.assertEqual(desk.say("patch"), "6")
        desk.say("end ann")
        self.assertEqual(desk.say("patch"), "0")
        desk.say("say bo x")
        self.assertEqual(desk.say("patch"), "5")
        desk.say("say bo ")
        self.assertEqual(desk.say("patch"), "0")
        desk.say("say bo [")
        self.assertEqual(desk.say("patch"), "0")
        desk.say("close bo")
        self.assertEqual(desk.say("patch"), "5")

    def test_behind_a_close(self):
        desk = begun("keep 1")
        desk.say("say ann a\nb\nc")
        desk.say("close ann")
        self.assertEqual(desk.say("gone ann"), "2")
        self.assertEqual(desk.say("back ann"), "whole a\nwhole b\nwhole c")
        self.assertEqual(desk.say("led 0 0"), "ann 4")

    def test_answers_are_texts(self):
        desk = begun()
        for row in BEHIND:
            self.assertIs(type(desk.say(row)), str, row)


class NoRows(unittest.TestCase):
    def test_ahead_of_begin(self):
        desk = desk_of(*BEGINNING)
        for row in BEHIND:
            refused(self, NoRow, desk.say, row)
        self.assertEqual(desk.say("begin"), "ok")

    def test_behind_begin(self):
        desk = begun()
        for row in AHEAD:
            refused(self, NoRow, desk.say, row)

    def test_words_too_many_and_too_few(self):
        for desk, rows in ((Desk(), AHEAD), (begun(), [row for row in BEHIND if not row.startswith("say")])):
            for row in rows:
                words = row.split(" ")
                for more in ("x", "1", "ann", "cut"):
                    refused(self, NoRow, desk.say, row + " " + more)
                if len(words) > 1:
                    refused(self, NoRow, desk.say, " ".join(words[:-1]))
                    refused(self, NoRow, desk.say, words[0])

    def test_blanks_too_many(self):
        for desk, rows in ((Desk(), AHEAD), (begun(), [row for row in BEHIND if not row.startswith("say")])):
            for row in rows:
                refused(self, NoRow, desk.say, " " + row)
                refused(self, NoRow, desk.say, row + " ")
                if " " in row:
                    refused(self, NoRow, desk.say, row.replace(" ", "  ", 1))

    def test_empty_rows_and_unknown_words(self):
        for desk in (Desk(), begun()):
            for row in ("", " ", "  ", "\n", "\t", "x", "Screen 3 8", "BEGIN", "screen", "1", "~", "rows\n", "begin\n",
                        "\nrows", "ok", "none", "say", "saying ann x", "Say ann x", "say\tann x"):
                refused(self, NoRow, desk.say, row)

    def test_no_text(self):
        for desk in (Desk(), begun()):
            for thing in OTHER_KINDS + [Odd(), 0, ["rows"], ("begin",), b"begin"]:
                if not isinstance(thing, str):
                    refused(self, NoRow, desk.say, thing)

    def test_no_numbers(self):
        for word in ("a", "-1", "+1", "01", "00", "1.0", "1000000", "0000001", "one", "1\n", "~", "\u0661"):
            for row in ("screen %s 8", "screen 3 %s", "most %s", "keep %s", "room cy %s 0 1 2 cut",
                        "room cy 0 %s 1 2 cut", "room cy 0 0 %s 2 cut", "room cy 0 0 1 %s cut"):
                refused(self, NoRow, Desk().say, row % word)
            desk = begun()
            for row in ("row %s", "cost %s", "led %s 0", "led 0 %s"):
                refused(self, NoRow, desk.say, row % word)

    def test_no_names(self):
        for word in ("Ann", "a1", "abcdefghi", "1", "~", "ann\n", "-", "\u00e4"):
            refused(self, NoRow, Desk().say, "room %s 0 0 1 2 cut" % word)
            desk = begun()
            for row in ("say %s x", "say %s ~", "end %s", "anew %s", "close %s", "gone %s", "back %s"):
                refused(self, NoRow, desk.say, row % word)

    def test_no_ways(self):
        for word in ("Cut", "word", "1", "evens", "~", "cut\n"):
            refused(self, NoRow, Desk().say, "room cy 0 0 1 2 " + word)

    def test_say(self):
        desk = begun()
        for row in ("say", "say ", "say  ", "say ann", "say  ann x", " say ann x", "say  x", "say ann\nx", "say ann\tx"):
            refused(self, NoRow, desk.say, row)
        self.assertEqual(desk.say("rows"), "0")

    def test_whatever_else_is_wrong(self):
        desk = begun("keep 1")
        desk.say("close bo")
        for row in ("close bo x", "say Bo ~", "close cy cy", "end cy ", " gone cy", "led 99 x", "row 99 99", "cost -1",
                    "say bo", "anew", "led 99 01"):
            refused(self, NoRow, desk.say, row)


class Refused(unittest.TestCase):
    def test_no_hand(self):
        desk = begun()
        for row in ("say cy x", "say cy ~", "say cy ", "end cy", "anew cy", "close cy", "gone cy", "back cy"):
            self.assertEqual(refused(self, NoHand, desk.say, row).name, "cy", row)

    def test_closed(self):
        desk = begun()
        desk.say("close ann")
        for row in ("say ann x", "say ann ", "say ann ~", "end ann", "anew ann", "close ann"):
            self.assertEqual(refused(self, Closed, desk.say, row).name, "ann", row)

    def test_no_sign(self):
        desk = begun()
        desk.say("say ann abc[")
        for text, at in (("~", 0), ("ab~", 2), (" ~", 1), ("\n\t ~~", 3), ("a]~", 2)):
            self.assertEqual(refused(self, NoSign, desk.say, "say ann " + text).at, at)

    def test_no_cell(self):
        desk = begun()
        for row in ("row 3", "row 999999", "cost 3", "cost 12", "led 3 0", "led 0 8", "led 999999 999999"):
            refused(self, NoCell, desk.say, row)
        for row in ("row 2", "cost 2", "led 2 7"):
            self.assertIs(type(desk.say(row)), str)

    def test_what_is_refused_changes_nothing(self):
        desk, other = begun("most 4"), begun("most 4")
        wrong = [("say ann x\ny~", NoSign), ("say cy x", NoHand), ("end", NoRow), ("row 3", NoCell), ("begin", NoRow),
                 ("screen 1 2", NoRow), ("numbered", NoRow), (None, NoRow), ("say ann", NoRow), ("led 3 0", NoCell)]
        for row in ("say ann [a]ab[", "say bo x y\n", "say ann b]cdef", "anew ann", "end ann", "close bo", "say ann z"):
            for bad, error in wrong:
                refused(self, error, desk.say, bad)
            self.assertEqual(desk.say(row), other.say(row))
            self.assertEqual(state_of(desk), state_of(other))
        for row in ("close bo", "say bo x", "end bo"):
            refused(self, Closed, desk.say, row)
        self.assertEqual(state_of(desk), state_of(other))

    def test_what_is_refused_ahead_of_begin_changes_nothing(self):
        desk = desk_of(*BEGINNING)
        for row in ("screen 1", "screen 1 x", "room cy 0 0 1 2 no", "room cy 0 0 1 2", "most", "most x", "keep 01",
                    "numbered 1", "begin 1", "rows", None):
            refused(self, NoRow, desk.say, row)
        self.assertEqual(desk.say("begin"), "ok")
        self.assertEqual(desk.say("end bo"), "bo |")
        refused(self, NoHand, desk.say, "end cy")


class Whole(unittest.TestCase):
    ROOMS = [("a", 0, 0, 2, 9, "cut"), ("bb", 0, 9, 3, 2, "cells"), ("ccc", 2, 0, 4, 8, "words"),
             ("d", 6, 0, 6, 12, "even"), ("eeeeeeee", 3, 12, 1, 28, "even"), ("f", 4, 12, 8, 5, "words")]

    def desk(self, most, keep, numbered):
        desk = desk_of("screen 12 40", "most %d" % most, "keep %d" % keep, *["numbered"] * numbered)
        for room in self.ROOMS:
            desk.say("room " + " ".join(str(thing) for thing in room))
        desk.say("begin")
        return desk

    def test_roll_and_board_alike(self):
        chance = random.Random(92)
        for again in range(6):
            most, keep, numbered = chance.choice([1, 9, 200]), chance.choice([1, 50]), again % 2 == 1
            desk = self.desk(most, keep, numbered)
            plan = Plan(12, 40, self.ROOMS)
            roll, board = Roll(plan.room_names(), most, numbered), Board(plan, most, keep)
            for name, piece in woven(chance, {room[0]: some_text(chance, 80) for room in self.ROOMS}):
                if piece is None:
                    rows, writes, told = roll.close(name), board.close(name), desk.say("close " + name)
                else:
                    rows, writes = roll.feed(name, piece), board.feed(name, piece)
                    told = desk.say("say %s %s" % (name, piece))
                self.assertEqual(told, "\n".join(rows) or "none")
                self.assertEqual(desk.say("patch"), str(cost_of(writes)))
                self.assertEqual(desk.say("rows"), str(len(roll.told_rows())))
                self.assertEqual(desk.say("gone " + name), str(board.let_go(name)))
            self.check_board(desk, board)

    def check_board(self, desk, board):
        for row, cells in enumerate(board.shown_picture()):
            shown = [cell for cell in cells if cell[0] != ""]
            self.assertEqual(desk.say("row %d" % row), shaded(shown))
            self.assertEqual(desk.say("cost %d" % row), str(shade_cost(shown)))
            for col in range(40):
                lead = led(board, row, col)
                self.assertEqual(desk.say("led %d %d" % (row, col)), "%s %d" % lead if lead else "none")

    def test_whatever_the_weaving_and_the_cutting(self):
        chance = random.Random(91)
        names = [room[0] for room in self.ROOMS]
        for again in range(4):
            texts = {name: some_text(chance, chance.choice([20, 150])) for name in names}
            states = []
            for weaving in range(3):
                desk = self.desk(30, 5, False)
                for name, piece in woven(chance, texts):
                    desk.say("close " + name if piece is None else "say %s %s" % (name, piece))
                states.append(state_of(desk, names, 12, 40))
                states[-1][1] = None
            self.assertEqual(states, [states[0]] * 3)
            for name in names:
                parts = whole_parts(texts[name], 30)
                expected = "\n".join(word + " " + shaded(one) for one, word in parts) or "none"
                self.assertEqual(desk.say("back " + name), expected)

    def test_end_and_anew_are_pieces(self):
        one, other = begun(), begun()
        for row in ("say ann ab", "anew ann", "say ann [", "end ann", "say ann x", "anew ann", "end ann"):
            one.say(row)
        other.say("say ann ab\t[\nx\t\n")
        self.assertEqual(state_of(one)[2:], state_of(other)[2:])
        self.assertEqual(one.say("back ann"), "whole [[\nwhole x")

    def test_three_thousand_signs(self):
        text = some_text(random.Random(93), 3000)
        desk = begun("most 1", "keep 1")
        desk.say("say ann " + text)
        desk.say("close ann")
        parts = whole_parts(text, 1)
        self.assertEqual(desk.say("rows"), str(len(parts)))
        self.assertEqual(desk.say("gone ann"), str(len(parts) - 1))
        self.assertEqual(desk.say("back ann"), "\n".join(word + " " + shaded(one) for one, word in parts))

    def test_asked_again(self):
        desk = begun()
        desk.say("say ann [a]x\nY[")
        self.assertEqual(state_of(desk), state_of(desk))

    def test_two_desks_have_nothing_in_common(self):
        one, other = Desk(), Desk()
        for row in ["most 1", "keep 1", "numbered"] + BEGINNING + ["begin", "say ann a\nb\nc"]:
            one.say(row)
        refused(self, NoSize, other.say, "begin")
        self.assertEqual(other.say("screen 1 2"), "ok")
        self.assertEqual(refused(self, NoRoom, other.say, "begin").at, 0)
        other = begun()
        one.say("close ann")
        self.assertEqual(other.say("say ann ab\n"), "ann|ab")
        self.assertEqual((other.say("rows"), other.say("gone ann"), other.say("patch")), ("1", "0", "6"))


if __name__ == "__main__":
    unittest.main()
