"""Pairs (ink, ground): those that stand, and what an item makes of them."""

PLAIN = (".", ".")


def pair_behind(pair, kind, value):
    if kind == "ink":
        return (value, pair[1])
    if kind == "ground":
        return (pair[0], value)
    if kind == "sign":
        return pair
    # What is left are the plain mark, the row end and the anew sign: behind each all is plain.
    return PLAIN
