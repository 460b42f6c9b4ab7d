"""Spots: where a line may end, and whether it fits."""

from outweave.letters import cells_of
from outweave.signs import width_of


def without_hanging(letters):
    end = len(letters)
    while end > 0 and letters[end - 1][0] == " ":
        end = end - 1
    return letters[:end]


def fits(letters, lo, hi, wide):
    return cells_of(without_hanging(letters[lo:hi])) <= wide


def is_break(letters, place):
    if place == len(letters):
        return True
    return letters[place - 1][0] == " " and letters[place][0] != " "


def breaks(letters):
    return [place for place in range(1, len(letters) + 1) if is_break(letters, place)]


def reach(letters, lo, wide):
    end = lo
    cells = 0
    while end < len(letters) and cells + width_of(letters[end][0]) <= wide:
        cells = cells + width_of(letters[end][0])
        end = end + 1
    return end


# Each end is told with the cells that the line fills, as its cost hangs on these.
def fitting_ends(letters, lo, wide):
    ends = []
    cells = 0
    filled = 0
    for place in range(lo, len(letters)):
        cells = cells + width_of(letters[place][0])
        if letters[place][0] != " ":
            filled = cells
        # A longer line has no fewer cells filled, so none beyond this one fits.
        if filled > wide:
            break
        if is_break(letters, place + 1):
            ends.append((place + 1, filled))
    return ends


# A word that is too long for any line is cut where the breadth ends, so that each line goes on.
def line_ends(letters, lo, wide):
    ends = fitting_ends(letters, lo, wide)
    if len(ends) > 0:
        return ends
    end = reach(letters, lo, wide)
    return [(end, cells_of(letters[lo:end]))]
