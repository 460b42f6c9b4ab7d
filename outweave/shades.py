"""Shades: a look written with as few signs in its marks as any text needs, and read again."""

from outweave.letters import shown_ink
from outweave.marks import items_of, written
from outweave.pairs import PLAIN, pair_behind
from outweave.trails import Trail, way_of


def colours_of(look, place):
    return sorted(set([PLAIN[0]] + [letter[place] for letter in look]))


def shows(pair, letter):
    return pair[1] == letter[2] and (pair[0] == letter[1] or letter[0] == " ")


def marks_of(inks, grounds):
    marks = [("plain", "")] + [("ink", ink) for ink in inks] + [("ground", ground) for ground in grounds]
    return [(written(kind, value), kind, value) for kind, value in marks]


class Shade(Trail):
    def __init__(self, look):
        self.look = list(look)
        inks = colours_of(look, 1)
        grounds = colours_of(look, 2)
        self.marks = marks_of(inks, grounds)
        self.pairs = []
        for ink in inks:
            self.pairs.extend([(ink, ground) for ground in grounds])

    def first_node(self):
        return (0, PLAIN)

    def last_at(self):
        return len(self.look)

    def nodes_at(self, at):
        return [(at, pair) for pair in self.pairs]

    def moves_from(self, node):
        at = node[0]
        pair = node[1]
        moves = [(len(name), name, (at, pair_behind(pair, kind, value))) for name, kind, value in self.marks]
        if at < len(self.look) and shows(pair, self.look[at]):
            moves.append((0, written("sign", self.look[at][0]), (at + 1, pair)))
        return moves

    def is_end(self, node):
        return node == (len(self.look), PLAIN)


def marks_to(pair, kind, colour):
    place = 0 if kind == "ink" else 1
    return "" if pair[place] == colour else written(kind, colour)


# Nothing is shorter than to set what is wrong, or to make all plain and set what is not plain then.
def marks_between(pair, other):
    straight = marks_to(pair, "ink", other[0]) + marks_to(pair, "ground", other[1])
    anew = written("plain", "") + marks_to(PLAIN, "ink", other[0]) + marks_to(PLAIN, "ground", other[1])
    return anew if len(anew) < len(straight) else straight


# The ways of a Shade once more, but with all marks ahead of a letter in one move, and with no pairs
# but those that show the letter: a long look of many colours has far fewer nodes so.
class Leaps(Trail):
    def __init__(self, look):
        self.look = list(look)
        self.inks = colours_of(look, 1)

    def first_node(self):
        return (0, PLAIN)

    def last_at(self):
        return len(self.look) + 1

    def nodes_at(self, at):
        if at == 0 or at == self.last_at():
            return [(at, PLAIN)]
        letter = self.look[at - 1]
        if letter[0] == " ":
            return [(at, (ink, letter[2])) for ink in self.inks]
        return [(at, (letter[1], letter[2]))]

    def moves_from(self, node):
        at = node[0]
        if at == self.last_at():
            return []
        sign = written("sign", self.look[at][0]) if at < len(self.look) else ""
        moves = []
        for beyond in self.nodes_at(at + 1):
            marks = marks_between(node[1], beyond[1])
            moves.append((len(marks), marks + sign, beyond))
        return moves

    def is_end(self, node):
        return node[0] == self.last_at()


def shaded_way(look):
    way = way_of(Leaps(look))
    return (way[0], "".join(way[1]))


def shaded(look):
    return shaded_way(look)[1]


def shade_cost(look):
    return shaded_way(look)[0]


def unshaded(text):
    pair = PLAIN
    told = []
    for item in items_of(text):
        kind = item[1]
        if kind == "end" or kind == "anew":
            return None
        if kind == "sign":
            told.append((item[2], shown_ink(item[2], pair[0]), pair[1]))
        pair = pair_behind(pair, kind, item[2])
    return told if pair == PLAIN else None
