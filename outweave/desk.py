"""The desk: asked by rows of text, it makes a weave and answers with texts."""

from outweave.forms import read_ahead, read_behind
from outweave.weaves import Weave


class Desk:
    def __init__(self):
        self.screen = (0, 0)
        self.rooms = []
        self.most = 200
        self.keep = 50
        self.numbered = False
        self.weave = None

    def say(self, row):
        if self.weave is None:
            self.prepare(read_ahead(row))
            return "ok"
        return self.weave.answer(read_behind(row))

    def prepare(self, asked):
        word = asked[0]
        if word == "screen":
            self.screen = (asked[1], asked[2])
        elif word == "room":
            self.rooms.append(tuple(asked[1:]))
        elif word == "most":
            self.most = asked[1]
        elif word == "keep":
            self.keep = asked[1]
        elif word == "numbered":
            self.numbered = True
        else:
            self.weave = Weave(
                self.screen[0], self.screen[1], self.rooms, self.most, self.keep, self.numbered)
