"""Folds: a part folded into lines, in one of four ways."""

from outweave.errors import NoSize
from outweave.evens import even
from outweave.sizes import is_within
from outweave.spots import line_ends, reach

WAYS = ("cut", "cells", "words", "even")
LEAST_BREADTH = 2
GREATEST_BREADTH = 40


def is_way(thing):
    return isinstance(thing, str) and thing in WAYS


def next_end(letters, lo, wide, way):
    if way == "words":
        return line_ends(letters, lo, wide)[-1][0]
    return reach(letters, lo, wide)


def end_to_end(letters, wide, way):
    stretches = []
    lo = 0
    while lo < len(letters):
        hi = next_end(letters, lo, wide, way)
        stretches.append((lo, hi))
        lo = hi
    return stretches


def fold(letters, wide, way):
    if not is_within(wide, LEAST_BREADTH, GREATEST_BREADTH):
        raise NoSize("a breadth is a whole number from 2 to 40")
    if not is_way(way):
        raise NoSize("a way is cut, cells, words or even")
    if len(letters) == 0:
        return [(0, 0)]
    if way == "cut":
        return [(0, reach(letters, 0, wide))]
    if way == "even":
        return even(letters, wide)
    return end_to_end(letters, wide, way)
