"""Patches: the writes that make one picture into another, as cheap as may be."""

from outweave.trails import Trail, way_of

WRITE_COST = 4


# Only the second cell of a great letter has no sign, so each other cell begins a letter.
def letter_stretches(row):
    begins = [col for col, cell in enumerate(row) if cell[0] != ""]
    return list(zip(begins, begins[1:] + [len(row)]))


class Change(Trail):
    def __init__(self, one, other):
        self.stretches = letter_stretches(other)
        self.alike = [one[lo:hi] == other[lo:hi] for lo, hi in self.stretches]

    def first_node(self):
        return (0, 0)

    def last_at(self):
        return len(self.stretches)

    def nodes_at(self, at):
        return [(at, 0), (at, 1)]

    def moves_from(self, node):
        at = node[0]
        if at == len(self.stretches):
            return []
        moves = []
        if self.alike[at]:
            moves.append((0, "pass", (at + 1, 0)))
        cells = self.stretches[at][1] - self.stretches[at][0]
        if node[1] == 0:
            moves.append((WRITE_COST + cells, "begin", (at + 1, 1)))
        else:
            moves.append((cells, "on", (at + 1, 1)))
        return moves

    def is_end(self, node):
        return node[0] == len(self.stretches)


def row_writes(place, one, other):
    names = way_of(Change(one, other))[1]
    writes = []
    for name, stretch in zip(names, letter_stretches(other)):
        if name == "begin":
            writes.append((place, stretch[0], []))
        if name != "pass":
            writes[-1][2].extend(other[stretch[0]:stretch[1]])
    return writes


def patch(one, other):
    writes = []
    for place, row in enumerate(other):
        if one[place] != row:
            writes.extend(row_writes(place, one[place], row))
    return writes


def patched(picture, writes):
    rows = [list(row) for row in picture]
    for write in writes:
        for step, cell in enumerate(write[2]):
            rows[write[0]][write[1] + step] = cell
    return rows


def cost_of(writes):
    return sum([WRITE_COST + len(write[2]) for write in writes])
