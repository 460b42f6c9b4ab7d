"""The board: a screen with a room for each hand, and the patches from one picture to the next."""

from outweave.errors import NoSize
from outweave.hands import Hand, of_name
from outweave.patches import patch
from outweave.pictures import blank, drawn
from outweave.rooms import NAME, TALL
from outweave.sizes import is_within
from outweave.views import folded, last_lines

GREATEST_KEEP = 50


class Pane:
    def __init__(self, room, most, keep):
        self.room = room
        self.keep = keep
        self.hand = Hand(room[NAME], most)
        self.parts = []
        self.folds = []
        self.gone = 0

    def add_parts(self, parts):
        surplus = max(0, len(self.parts) + len(parts) - self.keep)
        self.parts = (self.parts + parts)[surplus:]
        self.folds = (self.folds + [folded(part[0], self.room) for part in parts])[surplus:]
        self.gone = self.gone + surplus

    def lines_now(self):
        return last_lines(self.folds[-self.room[TALL]:], self.hand.open_letters(), self.room)


class Board:
    def __init__(self, plan, most, keep):
        if not is_within(keep, 1, GREATEST_KEEP):
            raise NoSize("a keep is a whole number from 1 to 50")
        self.plan = plan
        self.panes = {}
        for name in plan.room_names():
            self.panes[name] = Pane(plan.room_of(name), most, keep)
        size = plan.screen_size()
        self.picture = blank(size[0], size[1])

    def feed(self, name, piece):
        pane = of_name(self.panes, name)
        pane.add_parts(pane.hand.feed(piece))
        return self.redraw(pane)

    def close(self, name):
        pane = of_name(self.panes, name)
        pane.add_parts(pane.hand.close())
        return self.redraw(pane)

    def shown_picture(self):
        return [list(row) for row in self.picture]

    def kept_parts(self, name):
        return [(list(part[0]), part[1]) for part in of_name(self.panes, name).parts]

    def open_letters(self, name):
        return of_name(self.panes, name).hand.open_letters()

    def let_go(self, name):
        return of_name(self.panes, name).gone

    def shown_lines(self, name):
        return of_name(self.panes, name).lines_now()

    def its_plan(self):
        return self.plan

    def redraw(self, pane):
        before = self.picture
        self.picture = drawn(before, pane.room, pane.lines_now())
        return patch(before, self.picture)
