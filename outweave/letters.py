"""Letters: how they look, and how many cells they take."""

from outweave.signs import width_of


def shown_ink(sign, ink):
    # A blank shows its ground alone, so blanks of unlike inks look alike.
    return "." if sign == " " else ink


def look(letters):
    return [(letter[0], shown_ink(letter[0], letter[1]), letter[2]) for letter in letters]


def cells_of(letters):
    return sum([width_of(letter[0]) for letter in letters])
