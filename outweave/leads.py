"""Leads: a cell of a board led back to the hand that wrote it, and to the place in its text."""

from outweave.rooms import LEFT, TOP
from outweave.signs import width_of

PLACE = 3


def letter_at(line, cell):
    end = 0
    for letter in line:
        end = end + width_of(letter[0])
        if cell < end:
            return letter
    return None


def led(board, row, col):
    plan = board.its_plan()
    name = plan.room_at(row, col)
    if name is None:
        return None
    room = plan.room_of(name)
    lines = board.shown_lines(name)
    if row - room[TOP] >= len(lines):
        return None
    letter = letter_at(lines[row - room[TOP]], col - room[LEFT])
    return None if letter is None else (name, letter[PLACE])
