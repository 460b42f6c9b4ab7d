"""Texts of the desk: figures and words."""

from outweave.errors import NoRow

MOST_FIGURES = 6


def is_figures(thing):
    if not isinstance(thing, str) or not 1 <= len(thing) <= MOST_FIGURES:
        return False
    # Compared sign by sign: Python's isdigit takes figures of other scripts too.
    if not all(["0" <= sign <= "9" for sign in thing]):
        return False
    return thing == "0" or thing[0] != "0"


def words_of(row):
    if not isinstance(row, str):
        raise NoRow("a row is a text")
    words = row.split(" ")
    # A row without signs, too, is split into one word without signs.
    if "" in words:
        raise NoRow("words are parted by single blanks")
    return words
