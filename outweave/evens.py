"""Evens: the trail of a folding whose lines leave as little free as may be, and the folding."""

from outweave.spots import line_ends
from outweave.trails import Trail, way_of


class Even(Trail):
    def __init__(self, letters, wide):
        self.letters = list(letters)
        self.wide = wide

    def first_node(self):
        return (0, 0)

    def last_at(self):
        return len(self.letters)

    def nodes_at(self, at):
        return [(at, 0)]

    # The farthest comes first: a way then takes, of moves that cost alike, the one that goes on farthest.
    def moves_from(self, node):
        if self.is_end(node):
            return []
        ends = line_ends(self.letters, node[0], self.wide)
        return [(self.cost_to(end, cells), str(end), (end, 0)) for end, cells in reversed(ends)]

    def is_end(self, node):
        return node == (len(self.letters), 0)

    def cost_to(self, end, cells):
        return 0 if end == len(self.letters) else (self.wide - cells) ** 2


def even(letters, wide):
    way = way_of(Even(letters, wide))
    ends = [int(name) for name in way[1]]
    if len(ends) == 0:
        return [(0, 0)]
    return list(zip([0] + ends, ends))
