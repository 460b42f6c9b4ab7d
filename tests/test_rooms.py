"""[61], [62] plans and rooms; [3] the asker's own."""

import itertools
import unittest

from helper import OTHER_KINDS, Odd, refused
from outweave.errors import NoCell, NoHand, NoRoom, NoSize
from outweave.rooms import Plan

ANN = ("ann", 0, 0, 2, 4, "cut")
BO = ("bo", 0, 4, 1, 3, "words")
SEVEN = [(name, 0, 2 * k, 1, 2, "cells") for k, name in enumerate("abcdefg")]


class Taken(unittest.TestCase):
    def test_what_it_was_made_of(self):
        plan = Plan(3, 8, [ANN, BO])
        self.assertEqual(plan.screen_size(), (3, 8))
        self.assertEqual(plan.room_names(), ["ann", "bo"])
        self.assertEqual((plan.room_of("ann"), plan.room_of("bo")), (ANN, BO))
        self.assertEqual([[plan.room_at(row, col) for col in range(8)] for row in range(3)], [
            ["ann"] * 4 + ["bo"] * 3 + [None], ["ann"] * 4 + [None] * 4, [None] * 8])

    def test_the_order_is_that_of_the_list(self):
        self.assertEqual(Plan(3, 8, [BO, ANN]).room_names(), ["bo", "ann"])

    def test_the_least_and_the_greatest_screen(self):
        least = Plan(1, 2, [("a", 0, 0, 1, 2, "even")])
        self.assertEqual((least.screen_size(), least.room_at(0, 1)), ((1, 2), "a"))
        greatest = Plan(12, 40, [("abcdefgh", 0, 0, 12, 40, "cut")])
        self.assertEqual((greatest.screen_size(), greatest.room_at(11, 39)), ((12, 40), "abcdefgh"))

    def test_each_way(self):
        for way in ("cut", "cells", "words", "even"):
            self.assertEqual(Plan(1, 2, [("a", 0, 0, 1, 2, way)]).room_of("a")[5], way)

    def test_six_rooms(self):
        self.assertEqual(Plan(1, 12, SEVEN[:6]).room_names(), list("abcdef"))

    def test_rooms_that_touch(self):
        rooms = [("a", 1, 1, 2, 3, "cut"), ("b", 1, 4, 2, 2, "cut"), ("c", 3, 1, 1, 3, "cut"),
                 ("d", 0, 0, 1, 6, "cut"), ("e", 3, 4, 1, 2, "cut")]
        for order in itertools.permutations(rooms):
            self.assertEqual(len(Plan(4, 6, list(order)).room_names()), 5)

    def test_rooms_to_the_edge(self):
        self.assertEqual(Plan(5, 9, [("a", 3, 6, 2, 3, "cut")]).room_at(4, 8), "a")


class RefusedScreens(unittest.TestCase):
    def test_high(self):
        for high in [0, -1, 13, 10 ** 9, Odd()] + OTHER_KINDS:
            refused(self, NoSize, Plan, high, 8, [ANN])

    def test_wide(self):
        for wide in [1, 0, -2, 41, 10 ** 9, Odd()] + OTHER_KINDS:
            refused(self, NoSize, Plan, 3, wide, [ANN])

    def test_ahead_of_the_rooms(self):
        refused(self, NoSize, Plan, 0, 8, None)
        refused(self, NoSize, Plan, 3, True, [])


class RefusedRooms(unittest.TestCase):
    def refused_at(self, rooms, high=3, wide=8):
        return refused(self, NoRoom, Plan, high, wide, rooms).at

    def test_no_list_or_nothing_in_it(self):
        for rooms in [[], (), (ANN,), ANN, {"ann": ANN}, None, True, "ann", 3, Odd()]:
            self.assertEqual(self.refused_at(rooms), 0)

    def test_a_seventh_one(self):
        self.assertEqual(self.refused_at(SEVEN, 1, 14), 6)
        self.assertEqual(self.refused_at(SEVEN[:6] + [None, None], 1, 14), 6)
        self.assertEqual(self.refused_at(SEVEN[:3] + [None] + SEVEN[3:], 1, 14), 3)

    def test_no_tuples_of_six(self):
        for thing in [list(BO), BO[:5], BO + ("cut",), (), "abcdef", Odd(), (BO,), list("abcdef")] + OTHER_KINDS:
            self.assertEqual(self.refused_at([ANN, thing]), 1)
            self.assertEqual(self.refused_at([thing, ANN]), 0)

    def test_things_of_other_kinds(self):
        for place in range(6):
            for thing in OTHER_KINDS + [Odd(), -1, "Bo", "b o", "abcdefghi", "Cut", "word"]:
                if place == 0 and isinstance(thing, str) and thing in ("a", "word"):
                    continue
                room = BO[:place] + (thing,) + BO[place + 1:]
                self.assertEqual(self.refused_at([ANN, room]), 1, room)

    def test_the_least_numbers(self):
        for room in (("bo", -1, 4, 1, 3, "cut"), ("bo", 0, -1, 1, 3, "cut"), ("bo", 0, 4, 0, 3, "cut"),
                     ("bo", 0, 4, -1, 3, "cut"), ("bo", 0, 4, 1, 1, "cut"), ("bo", 0, 4, 1, 0, "cut")):
            self.assertEqual(self.refused_at([ANN, room]), 1, room)
        for room in (("bo", -1, 0, 2, 4, "cut"), ("bo", 0, -1, 2, 4, "cut")):
            self.assertEqual(self.refused_at([room]), 0, room)

    def test_beyond_the_screen(self):
        for room in (("bo", 2, 0, 2, 2, "cut"), ("bo", 3, 0, 1, 2, "cut"), ("bo", 2, 7, 1, 2, "cut"),
                     ("bo", 2, 8, 1, 2, "cut"), ("bo", 2, 0, 1, 9, "cut"), ("bo", 10 ** 9, 0, 1, 2, "cut")):
            self.assertEqual(self.refused_at([ANN, room]), 1, room)

    def test_a_name_twice(self):
        self.assertEqual(self.refused_at([ANN, BO, ("ann", 2, 0, 1, 2, "cut")]), 2)

    def test_one_cell_in_two_rooms(self):
        middle = ("m", 2, 4, 3, 4, "cut")
        for top, left in ((0, 1), (0, 7), (4, 1), (4, 7)):
            other = ("o", top, left, 3, 4, "cut")
            self.assertEqual(self.refused_at([middle, other], 8, 12), 1)
            self.assertEqual(self.refused_at([other, middle], 8, 12), 1)
        for other in (("o", 3, 5, 1, 2, "cut"), ("o", 0, 0, 8, 12, "cut"), ("o", 3, 0, 1, 12, "cut"), middle):
            self.assertEqual(self.refused_at([middle, other], 8, 12), 1)

    def test_all_pairs_of_rooms_on_a_small_screen(self):
        spans = [(top, left, tall, broad) for top in range(3) for left in range(4)
                 for tall in range(1, 4 - top) for broad in range(2, 5 - left)]
        for one, other in itertools.product(spans, repeat=2):
            cells = [{(row, col) for row in range(top, top + tall) for col in range(left, left + broad)}
                     for top, left, tall, broad in (one, other)]
            rooms = [("a",) + one + ("cut",), ("b",) + other + ("cut",)]
            if cells[0] & cells[1]:
                self.assertEqual(self.refused_at(rooms, 3, 4), 1)
            else:
                self.assertEqual(Plan(3, 4, rooms).room_names(), ["a", "b"])

    def test_the_first_wrong_one(self):
        self.assertEqual(self.refused_at([ANN, None, BO, None]), 1)
        self.assertEqual(self.refused_at([ANN, ANN, None]), 1)

    def test_made_good_it_is_taken(self):
        rooms = [ANN, ANN]
        self.refused_at(rooms)
        self.assertEqual(rooms, [ANN, ANN])
        rooms[1] = BO
        self.assertEqual(Plan(3, 8, rooms).room_names(), ["ann", "bo"])


class Asked(unittest.TestCase):
    def test_no_hand(self):
        plan = Plan(3, 8, [ANN, BO])
        for name in ["cy", "an", "Ann", Odd(), ["ann"], ("ann",)] + OTHER_KINDS:
            self.assertIs(refused(self, NoHand, plan.room_of, name).name, name)

    def test_no_cell(self):
        plan = Plan(3, 8, [ANN, BO])
        for row in [-1, 3, 10 ** 9, Odd()] + OTHER_KINDS:
            refused(self, NoCell, plan.room_at, row, 0)
        for col in [-1, 8, 10 ** 9, Odd()] + OTHER_KINDS:
            refused(self, NoCell, plan.room_at, 0, col)

    def test_what_is_handed_in_stays_and_may_be_changed_behind(self):
        rooms = [ANN, BO]
        plan = Plan(3, 8, rooms)
        self.assertEqual(rooms, [ANN, BO])
        rooms.clear()
        self.assertEqual((plan.room_names(), plan.room_at(0, 4)), (["ann", "bo"], "bo"))

    def test_what_was_told_and_is_changed(self):
        plan = Plan(3, 8, [ANN, BO])
        plan.room_names().clear()
        plan.room_names()[0] = "cy"
        self.assertEqual(plan.room_names(), ["ann", "bo"])
        self.assertEqual((type(plan.screen_size()), type(plan.room_of("ann"))), (tuple, tuple))

    def test_two_plans_have_nothing_in_common(self):
        one, other = Plan(3, 8, [ANN]), Plan(12, 40, [BO])
        self.assertEqual((one.room_names(), other.room_names()), (["ann"], ["bo"]))
        self.assertEqual((one.screen_size(), other.screen_size()), ((3, 8), (12, 40)))


if __name__ == "__main__":
    unittest.main()
