"""A weave: roll and board of the same hands, and the answers of a desk that has begun."""

from outweave.boards import Board
from outweave.errors import NoCell
from outweave.hands import of_name
from outweave.leads import led
from outweave.patches import cost_of
from outweave.rolls import Roll
from outweave.rooms import Plan
from outweave.shades import shade_cost, shaded
from outweave.signs import ANEW_SIGN, ROW_END
from outweave.unrolls import unroll


def joined(rows):
    return "\n".join(rows) if len(rows) > 0 else "none"


class Weave:
    def __init__(self, high, wide, rooms, most, keep, numbered):
        self.plan = Plan(high, wide, rooms)
        self.board = Board(self.plan, most, keep)
        self.roll = Roll(self.plan.room_names(), most, numbered)
        self.numbered = numbered
        self.patch_cost = 0

    # The roll comes first: what it refuses the board has not been told.
    def feed(self, name, piece):
        rows = self.roll.feed(name, piece)
        self.patch_cost = cost_of(self.board.feed(name, piece))
        return joined(rows)

    def close(self, name):
        rows = self.roll.close(name)
        self.patch_cost = cost_of(self.board.close(name))
        return joined(rows)

    def look_of_row(self, row):
        if row >= self.plan.screen_size()[0]:
            raise NoCell("the screen has no such row")
        return [cell for cell in self.board.shown_picture()[row] if cell[0] != ""]

    def lead_to(self, row, col):
        lead = led(self.board, row, col)
        return "none" if lead is None else lead[0] + " " + str(lead[1])

    def read_back(self, name):
        parts = unroll(self.plan.room_names(), self.roll.told_rows(), self.numbered)
        return joined([part[1] + " " + shaded(part[0]) for part in of_name(parts, name)])

    def answer(self, asked):
        word = asked[0]
        if word == "say":
            return self.feed(asked[1], asked[2])
        if word == "end":
            return self.feed(asked[1], ROW_END)
        if word == "anew":
            return self.feed(asked[1], ANEW_SIGN)
        if word == "close":
            return self.close(asked[1])
        return self.answer_question(asked)

    def answer_question(self, asked):
        word = asked[0]
        if word == "row":
            return shaded(self.look_of_row(asked[1]))
        if word == "cost":
            return str(shade_cost(self.look_of_row(asked[1])))
        if word == "led":
            return self.lead_to(asked[1], asked[2])
        if word == "gone":
            return str(self.board.let_go(asked[1]))
        if word == "back":
            return self.read_back(asked[1])
        if word == "rows":
            return str(len(self.roll.told_rows()))
        return str(self.patch_cost)
