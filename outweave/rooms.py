"""Rooms: a plan is a screen with a room for each hand."""

from outweave.errors import NoCell, NoRoom, NoSize
from outweave.folds import is_way
from outweave.hands import of_name
from outweave.signs import is_name
from outweave.sizes import is_whole, is_within

GREATEST_HEIGHT = 12
LEAST_WIDTH = 2
GREATEST_WIDTH = 40
MOST_ROOMS = 6

# The places of a room's things in its tuple.
NAME = 0
TOP = 1
LEFT = 2
TALL = 3
BROAD = 4
WAY = 5
ROOM_THINGS = 6


def is_room(thing):
    if not isinstance(thing, tuple) or len(thing) != ROOM_THINGS:
        return False
    if not all([is_whole(number) for number in thing[TOP:WAY]]):
        return False
    least_ones = thing[TOP] >= 0 and thing[LEFT] >= 0 and thing[TALL] >= 1 and thing[BROAD] >= 2
    return is_name(thing[NAME]) and least_ones and is_way(thing[WAY])


def lies_within(room, high, wide):
    return room[TOP] + room[TALL] <= high and room[LEFT] + room[BROAD] <= wide


def overlap(start, length, other_start, other_length):
    return start < other_start + other_length and other_start < start + length


def get_in_the_way(one, other):
    if one[NAME] == other[NAME]:
        return True
    rows = overlap(one[TOP], one[TALL], other[TOP], other[TALL])
    return rows and overlap(one[LEFT], one[BROAD], other[LEFT], other[BROAD])


def has_cell(room, row, col):
    return room[TOP] <= row < room[TOP] + room[TALL] and room[LEFT] <= col < room[LEFT] + room[BROAD]


def check_screen(high, wide):
    if not is_within(high, 1, GREATEST_HEIGHT):
        raise NoSize("a screen is 1 to 12 cells high")
    if not is_within(wide, LEAST_WIDTH, GREATEST_WIDTH):
        raise NoSize("a screen is 2 to 40 cells wide")


def check_rooms(high, wide, rooms):
    if not isinstance(rooms, list) or len(rooms) == 0:
        raise NoRoom(0)
    for place, room in enumerate(rooms):
        if place >= MOST_ROOMS or not is_room(room) or not lies_within(room, high, wide):
            raise NoRoom(place)
        if any([get_in_the_way(room, ahead) for ahead in rooms[:place]]):
            raise NoRoom(place)


class Plan:
    def __init__(self, high, wide, rooms):
        check_screen(high, wide)
        check_rooms(high, wide, rooms)
        self.high = high
        self.wide = wide
        self.room_by_name = {}
        for room in rooms:
            self.room_by_name[room[NAME]] = room

    def screen_size(self):
        return (self.high, self.wide)

    def room_names(self):
        return list(self.room_by_name)

    def room_of(self, name):
        return of_name(self.room_by_name, name)

    def room_at(self, row, col):
        if not is_within(row, 0, self.high - 1) or not is_within(col, 0, self.wide - 1):
            raise NoCell("the screen has no such cell")
        for room in self.room_by_name.values():
            if has_cell(room, row, col):
                return room[NAME]
        return None
