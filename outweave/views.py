"""Views: the lines of a hand that are shown in its room."""

from outweave.folds import fold
from outweave.rooms import BROAD, TALL, WAY
from outweave.spots import reach


def shown_of(line, broad):
    return line[:reach(line, 0, broad)]


def folded(letters, room):
    stretches = fold(letters, room[BROAD], room[WAY])
    return [shown_of(letters[lo:hi], room[BROAD]) for lo, hi in stretches]


# Apart from lines_of, so that a board need not fold again what it folded when a part was told.
def last_lines(folds, letters, room):
    lines = []
    for part_lines in folds:
        lines.extend(part_lines)
    if len(letters) > 0:
        lines.extend(folded(letters, room))
    return [list(line) for line in lines[-room[TALL]:]]


def lines_of(parts, letters, room):
    # Each part has a line at least, so no part ahead of the last tall ones is shown.
    folds = [folded(part[0], room) for part in parts[-room[TALL]:]]
    return last_lines(folds, letters, room)
