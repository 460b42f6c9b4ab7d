"""[83], [7] a cell led back to its hand and its place."""

import random
import unittest

from helper import OTHER_KINDS, Odd, refused, some_text, woven
from outweave.boards import Board
from outweave.errors import NoCell
from outweave.leads import led
from outweave.rooms import Plan

ROOMS = [("ann", 0, 0, 2, 4, "cells"), ("bo", 1, 4, 2, 4, "words")]
SIX = [("a", 0, 0, 2, 9, "cut"), ("b", 0, 9, 3, 2, "cells"), ("c", 2, 0, 4, 8, "words"),
       ("d", 6, 0, 6, 12, "even"), ("e", 3, 12, 1, 28, "even"), ("f", 4, 12, 8, 5, "words")]


def fed(board, pieces):
    for name, piece in pieces:
        if piece is None:
            board.close(name)
        else:
            board.feed(name, piece)
    return board


def board_of(pieces, most=200, keep=50):
    return fed(Board(Plan(3, 8, ROOMS), most, keep), pieces)


def leads_of(board):
    high, wide = board.its_plan().screen_size()
    return [[led(board, row, col) for col in range(wide)] for row in range(high)]


class Led(unittest.TestCase):
    def test_to_hand_and_place(self):
        board = board_of([("ann", "[a]xy\nz"), ("bo", "hi")])
        self.assertEqual(leads_of(board), [
            [("ann", 3), ("ann", 4)] + [None] * 6, [("ann", 6)] + [None] * 3 + [("bo", 0), ("bo", 1), None, None],
            [None] * 8])

    def test_cells_of_no_room(self):
        board = board_of([("ann", "abcdefgh"), ("bo", "abcd efgh")])
        self.assertEqual([led(board, 0, col) for col in range(4, 8)], [None] * 4)
        self.assertEqual([led(board, 2, col) for col in range(4)], [None] * 4)

    def test_both_cells_of_a_great_letter(self):
        board = board_of([("ann", "aBc")])
        self.assertEqual([led(board, 0, col) for col in range(4)], [("ann", 0), ("ann", 1), ("ann", 1), ("ann", 2)])

    def test_blanks(self):
        board = board_of([("ann", "a b ")])
        self.assertEqual([led(board, 0, col) for col in range(4)], [("ann", k) for k in range(4)])
        board = board_of([("ann", " "), ("bo", "ab     cd")])
        self.assertEqual([led(board, 0, col) for col in range(2)], [("ann", 0), None])
        self.assertEqual([led(board, 1, col) for col in range(4, 8)], [("bo", k) for k in range(4)])

    def test_a_bracket_that_was_written_twice(self):
        board = board_of([("ann", "[[a[[b")])
        self.assertEqual([led(board, 0, col) for col in range(4)], [("ann", 0), ("ann", 2), ("ann", 3), ("ann", 5)])

    def test_places_count_over_all_pieces(self):
        board = board_of([("ann", "ab\n["), ("bo", "x"), ("ann", "c]"), ("ann", "d")])
        self.assertEqual(led(board, 1, 0), ("ann", 6))

    def test_a_closed_hand(self):
        board = board_of([("ann", "a["), ("ann", None)])
        self.assertEqual([led(board, 0, col) for col in range(3)], [("ann", 0), ("ann", 1), None])

    def test_a_part_let_go(self):
        board = board_of([("ann", "a\nb\n")], keep=1)
        self.assertEqual((led(board, 0, 0), led(board, 1, 0)), (("ann", 2), None))

    def test_a_part_without_letters(self):
        board = board_of([("ann", "\na")])
        self.assertEqual((led(board, 0, 0), led(board, 1, 0)), (None, ("ann", 1)))

    def test_an_emptied_part(self):
        board = board_of([("ann", "abc\t")])
        self.assertEqual(led(board, 0, 2), ("ann", 2))
        board.feed("ann", "x")
        self.assertEqual((led(board, 0, 0), led(board, 0, 1)), (("ann", 4), None))

    def test_kinds(self):
        lead = led(board_of([("ann", "a")]), 0, 0)
        self.assertEqual([type(lead), type(lead[0]), type(lead[1])], [tuple, str, int])


class Whole(unittest.TestCase):
    def check(self, board, texts):
        plan, picture = board.its_plan(), board.shown_picture()
        leads = leads_of(board)
        for row, cells in enumerate(picture):
            for col, cell in enumerate(cells):
                lead = leads[row][col]
                if cell[0] == "":
                    self.assertEqual(lead, leads[row][col - 1])
                elif lead is None:
                    self.assertEqual(cell, (" ", ".", "."))
                else:
                    self.assertEqual(lead[0], plan.room_at(row, col))
                    self.assertEqual(texts[lead[0]][lead[1]], cell[0])
        for name in plan.room_names():
            room = plan.room_of(name)
            places = [letter[3] for line in board.shown_lines(name) for letter in line]
            shown = [leads[row][col] for row in range(room[1], room[1] + room[3])
                     for col in range(room[2], room[2] + room[4]) if picture[row][col][0] != ""]
            self.assertEqual([lead[1] for lead in shown if lead is not None], places)
            self.assertEqual(places, sorted(places))

    def test_each_letter_is_led_to_its_sign(self):
        chance = random.Random(83)
        for again in range(12):
            texts = {room[0]: some_text(chance, chance.choice([10, 200, 600])) for room in SIX}
            board = Board(Plan(12, 40, SIX), chance.choice([1, 7, 200]), chance.choice([1, 4, 50]))
            self.check(fed(board, woven(chance, texts)), texts)

    def test_whatever_the_weaving_and_the_cutting(self):
        chance = random.Random(85)
        for again in range(8):
            texts = {room[0]: some_text(chance, 120) for room in SIX}
            told = [leads_of(fed(Board(Plan(12, 40, SIX), 30, 9), woven(chance, texts))) for k in range(3)]
            self.assertEqual(told, [told[0]] * 3)


class Refused(unittest.TestCase):
    def test_no_cell(self):
        board = board_of([("ann", "a")])
        for thing in [-1, 10 ** 9, Odd()] + OTHER_KINDS:
            refused(self, NoCell, led, board, thing, 0)
            refused(self, NoCell, led, board, 0, thing)
        refused(self, NoCell, led, board, 3, 0)
        refused(self, NoCell, led, board, 0, 8)

    def test_asking_changes_nothing(self):
        board = board_of([("ann", "ab[")])
        leads_of(board)
        refused(self, NoCell, led, board, 3, 0)
        self.assertEqual(board.feed("ann", "a]c"), [(0, 2, [("c", "a", ".")])])


if __name__ == "__main__":
    unittest.main()
