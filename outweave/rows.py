"""Rows of letters: the items of a hand made into parts."""

from outweave.errors import NoSize
from outweave.marks import items_of
from outweave.pairs import PLAIN, pair_behind
from outweave.sizes import is_within

GREATEST_MOST = 200


class Maker:
    def __init__(self, most):
        if not is_within(most, 1, GREATEST_MOST):
            raise NoSize("a most is a whole number from 1 to 200")
        self.most = most
        self.last_word = "whole"
        self.begin_row()

    def put(self, item):
        kind = item[1]
        told = []
        if kind == "end":
            told = self.tell("whole")
            self.stale = False
        elif kind == "anew":
            self.stale = True
        else:
            self.empty_stale()
        if kind == "sign":
            told = self.add_letter(item)
        self.pair = pair_behind(self.pair, kind, item[2])
        return told

    def open_letters(self):
        return list(self.letters)

    def going_on(self):
        return self.last_word == "more"

    def finish(self):
        told = []
        if len(self.letters) > 0 or self.going_on():
            told = self.tell("whole")
        self.begin_row()
        return told

    def begin_row(self):
        self.letters = []
        self.pair = PLAIN
        self.stale = False

    def empty_stale(self):
        if self.stale:
            self.letters = []
            self.stale = False

    def add_letter(self, item):
        told = []
        if len(self.letters) == self.most:
            told = self.tell("more")
        self.letters.append((item[2], self.pair[0], self.pair[1], item[0]))
        return told

    # The list of letters goes to the asker as it is, so the open part gets a new one.
    def tell(self, word):
        part = (self.letters, word)
        self.letters = []
        self.last_word = word
        return [part]


def rows_of(text, most):
    maker = Maker(most)
    parts = []
    for item in items_of(text):
        parts.extend(maker.put(item))
    return (parts, maker.open_letters())
