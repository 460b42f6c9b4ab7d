"""Forms: the rows that a desk is asked by, read into their words and values."""

from outweave.errors import NoRow
from outweave.folds import is_way
from outweave.signs import is_name
from outweave.texts import is_figures, words_of

# What is due behind the first word of a row, ahead of begin and behind it.
DUE_AHEAD = {
    "screen": ("number", "number"),
    "room": ("name", "number", "number", "number", "number", "way"),
    "most": ("number",),
    "keep": ("number",),
    "numbered": (),
    "begin": (),
}
DUE_BEHIND = {
    "end": ("name",),
    "anew": ("name",),
    "close": ("name",),
    "row": ("number",),
    "cost": ("number",),
    "led": ("number", "number"),
    "gone": ("name",),
    "back": ("name",),
    "rows": (),
    "patch": (),
}
SAY_AHEAD = "say "


def value_of(word, kind):
    if kind == "number" and is_figures(word):
        return int(word)
    if kind == "name" and is_name(word):
        return word
    if kind == "way" and is_way(word):
        return word
    raise NoRow("no " + kind + " where one is due")


def read_words(words, due):
    if due is None:
        raise NoRow("no such row here")
    if len(words) != len(due) + 1:
        raise NoRow("too many or too few words")
    return [words[0]] + [value_of(word, kind) for word, kind in zip(words[1:], due)]


# The text may have blanks anywhere, so such a row is no row of words.
def read_say(row):
    parted = row[len(SAY_AHEAD):].partition(" ")
    if parted[1] == "":
        raise NoRow("no text behind the name")
    return ["say", value_of(parted[0], "name"), parted[2]]


def read_ahead(row):
    words = words_of(row)
    return read_words(words, DUE_AHEAD.get(words[0]))


def read_behind(row):
    if isinstance(row, str) and row.startswith(SAY_AHEAD):
        return read_say(row)
    words = words_of(row)
    return read_words(words, DUE_BEHIND.get(words[0]))
