"""Marks and items: a hand's text read, whole or piece by piece, and written again."""

from outweave.signs import ANEW_SIGN, ROW_END, checked, is_colour


def mark_of(text):
    if text == "[]":
        return ("plain", "")
    if text == "[[":
        return ("sign", "[")
    if len(text) == 3 and text[0] == "[" and is_colour(text[1]) and text[2] == "]":
        return ("ink", text[1])
    if len(text) == 4 and text.startswith("[/") and is_colour(text[2]) and text[3] == "]":
        return ("ground", text[2])
    return None


def may_become_mark(text):
    if text == "[" or text == "[/":
        return True
    if len(text) == 2:
        return text[0] == "[" and is_colour(text[1])
    return len(text) == 3 and text.startswith("[/") and is_colour(text[2])


def own_item(place, sign):
    if sign == ROW_END:
        return (place, "end", "")
    if sign == ANEW_SIGN:
        return (place, "anew", "")
    return (place, "sign", sign)


def own_items(place, signs):
    return [own_item(place + k, sign) for k, sign in enumerate(signs)]


class Reader:
    def __init__(self):
        self.held = ""
        self.place = 0

    def feed(self, piece):
        # The whole piece is checked ahead, so that a refused one leaves the reader as it was.
        checked(piece)
        told = []
        for sign in piece:
            told.extend(self.take(sign))
        return told

    def held_text(self):
        return self.held

    def finish(self):
        told = own_items(self.place - len(self.held), self.held)
        self.held = ""
        return told

    # Only a [ begins a mark, and what is held has none but its first: so what turns out to be
    # no mark is told at once, all but the sign that came now, which may begin one itself.
    def take(self, sign):
        seen = self.held + sign
        first = self.place - len(self.held)
        self.place = self.place + 1
        if may_become_mark(seen):
            self.held = seen
            return []
        mark = mark_of(seen)
        if mark is not None:
            self.held = ""
            return [(first, mark[0], mark[1])]
        if sign == "[":
            told = own_items(first, self.held)
            self.held = sign
            return told
        self.held = ""
        return own_items(first, seen)


def items_of(text):
    reader = Reader()
    told = reader.feed(text)
    return told + reader.finish()


def written(kind, value):
    if kind == "sign":
        return "[[" if value == "[" else value
    if kind == "ink":
        return "[" + value + "]"
    if kind == "ground":
        return "[/" + value + "]"
    if kind == "plain":
        return "[]"
    return ROW_END if kind == "end" else ANEW_SIGN


def text_of(items):
    return "".join([written(item[1], item[2]) for item in items])
