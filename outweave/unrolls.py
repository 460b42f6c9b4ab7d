"""To unroll: the rows of a roll read back, hand by hand."""

from outweave.errors import NoRoll, NoSign
from outweave.rolls import head_of, number_ahead
from outweave.shades import unshaded


def heads_of(names):
    heads = []
    for name in names:
        for word in ("whole", "more"):
            heads.append((head_of(name, names, word), name, word))
    return heads


def look_or_none(text):
    try:
        return unshaded(text)
    except NoSign:
        return None


# All heads are of one length and unlike, so no row begins with two of them.
def read_row(row, ahead, heads):
    if not isinstance(row, str):
        return None
    for head, name, word in heads:
        if row.startswith(ahead + head):
            shown = look_or_none(row[len(ahead + head):])
            return None if shown is None else (name, shown, word)
    return None


def unroll(names, rows, numbered=False):
    heads = heads_of(names)
    parts = {}
    for name in names:
        parts[name] = []
    for place, row in enumerate(rows):
        told = read_row(row, number_ahead(place + 1, numbered), heads)
        if told is None:
            raise NoRoll(place)
        parts[told[0]].append((told[1], told[2]))
    return parts
