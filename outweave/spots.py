"""Spots: where a line may end, and whether it fits."""

from outweave.letters import cells_of


def hanging_off(letters):
    end = len(letters)
    while end > 0 and letters[end - 1][0] == " ":
        end = end - 1
    return letters[:end]


def fits(letters, lo, hi, wide):
    return cells_of(hanging_off(letters[lo:hi])) <= wide


def is_break(letters, place):
    if place == len(letters):
        return True
    return letters[place - 1][0] == " " and letters[place][0] != " "


def breaks(letters):
    return [place for place in range(1, len(letters) + 1) if is_break(letters, place)]
