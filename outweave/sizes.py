"""Whole numbers, and those that lie within bounds."""


def is_whole(thing):
    # True and False are ints to Python, but no whole numbers here.
    return isinstance(thing, int) and not isinstance(thing, bool)


def is_within(thing, least, greatest):
    return is_whole(thing) and least <= thing <= greatest
