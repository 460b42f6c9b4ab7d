"""Hands: each with a reader and a maker, that tell the parts of what it wrote."""

from outweave.errors import Closed, NoHand
from outweave.marks import Reader
from outweave.rows import Maker


class Hand:
    def __init__(self, name, most):
        self.name = name
        self.reader = Reader()
        self.maker = Maker(most)
        self.closed = False

    def feed(self, piece):
        self.refuse_closed()
        return self.put_all(self.reader.feed(piece))

    def close(self):
        self.refuse_closed()
        parts = self.put_all(self.reader.finish())
        parts.extend(self.maker.finish())
        self.closed = True
        return parts

    def held_text(self):
        return self.reader.held_text()

    def open_letters(self):
        return self.maker.open_letters()

    def refuse_closed(self):
        if self.closed:
            raise Closed(self.name)

    def put_all(self, items):
        parts = []
        for item in items:
            parts.extend(self.maker.put(item))
        return parts


# A name that is asked for may be of any kind, and a dict takes no lists: so texts alone are looked up.
def of_name(things, name):
    if not isinstance(name, str) or name not in things:
        raise NoHand(name)
    return things[name]
