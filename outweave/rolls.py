"""The roll: rows of one hand each, as their parts are told."""

from outweave.errors import NoName, Twice
from outweave.hands import Hand, of_name
from outweave.letters import look
from outweave.shades import shaded
from outweave.signs import is_name

MOST_HANDS = 6


def check_names(names):
    if not isinstance(names, list) or not 1 <= len(names) <= MOST_HANDS:
        raise NoName("names are a list of one to six")
    for place, name in enumerate(names):
        if not is_name(name):
            raise NoName("a name is a text of one to eight small letters")
        if name in names[:place]:
            raise Twice(name)


def number_ahead(number, numbered):
    return str(number) + " " if numbered else ""


def head_of(name, names, word):
    longest = max([len(one) for one in names])
    return name.ljust(longest) + ("|" if word == "whole" else ">")


class Roll:
    def __init__(self, names, most, numbered=False):
        check_names(names)
        self.names = list(names)
        self.numbered = numbered
        self.rows = []
        self.hands = {}
        for name in names:
            self.hands[name] = Hand(name, most)

    def feed(self, name, piece):
        return self.add_rows(name, of_name(self.hands, name).feed(piece))

    def close(self, name):
        return self.add_rows(name, of_name(self.hands, name).close())

    def told_rows(self):
        return list(self.rows)

    def held_of(self, name):
        hand = of_name(self.hands, name)
        return (hand.held_text(), hand.open_letters())

    def add_rows(self, name, parts):
        told = []
        for part in parts:
            ahead = number_ahead(len(self.rows) + len(told) + 1, self.numbered)
            told.append(ahead + head_of(name, self.names, part[1]) + shaded(look(part[0])))
        self.rows.extend(told)
        return told
