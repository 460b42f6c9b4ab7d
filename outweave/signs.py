"""Signs, names and colours: what they are, and how wide a sign is."""

from outweave.errors import NoSign

FIRST_SIGN = " "
LAST_SIGN = "}"
ROW_END = "\n"
ANEW_SIGN = "\t"
COLOURS = "abcdefgh."
LONGEST_NAME = 8


def is_sign(thing):
    return isinstance(thing, str) and len(thing) == 1 and FIRST_SIGN <= thing <= LAST_SIGN


def is_name(thing):
    if not isinstance(thing, str):
        return False
    # Compared letter by letter: Python's islower and isalpha take letters beyond a to z too.
    return 1 <= len(thing) <= LONGEST_NAME and all(["a" <= letter <= "z" for letter in thing])


def is_colour(thing):
    # The length is asked because "" and "ab" are found within COLOURS too.
    return isinstance(thing, str) and len(thing) == 1 and thing in COLOURS


def width_of(sign):
    return 2 if "A" <= sign <= "Z" else 1


def checked(text):
    if not isinstance(text, str):
        raise NoSign(0)
    for place, sign in enumerate(text):
        if not (is_sign(sign) or sign == ROW_END or sign == ANEW_SIGN):
            raise NoSign(place)
