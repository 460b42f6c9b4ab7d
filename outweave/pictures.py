"""Pictures: rows of cells, and lines of letters drawn into a room."""

from outweave.letters import look
from outweave.rooms import BROAD, LEFT, TALL, TOP
from outweave.signs import width_of

BLANK_CELL = (" ", ".", ".")


def blank(high, wide):
    return [[BLANK_CELL] * wide for row in range(high)]


def line_cells(line):
    cells = []
    for cell in look(line):
        cells.append(cell)
        if width_of(cell[0]) == 2:
            cells.append(("", cell[1], cell[2]))
    return cells


def drawn_row(row, room, line):
    cells = line_cells(line)
    free = [BLANK_CELL] * (room[BROAD] - len(cells))
    return row[:room[LEFT]] + cells + free + row[room[LEFT] + room[BROAD]:]


def drawn(picture, room, lines):
    rows = [list(row) for row in picture]
    for place in range(room[TALL]):
        line = lines[place] if place < len(lines) else []
        rows[room[TOP] + place] = drawn_row(rows[room[TOP] + place], room, line)
    return rows
