"""Views: the lines of a hand that are shown in its room."""

from outweave.folds import fold
from outweave.rooms import BROAD, TALL, WAY
from outweave.spots import reach


def shown_of(line, broad):
    return line[:reach(line, 0, broad)]


def folded(letters, room):
    stretches = fold(letters, room[BROAD], room[WAY])
    return [shown_of(letters[lo:hi], room[BROAD]) for lo, hi in stretches]


def last_lines(lines, room):
    return lines[-room[TALL]:]


def lines_of(parts, letters, room):
    lines = []
    # Each part has a line at least, so no part ahead of the last tall ones is shown.
    for part in parts[-room[TALL]:]:
        lines.extend(folded(part[0], room))
    if len(letters) > 0:
        lines.extend(folded(letters, room))
    return last_lines(lines, room)
