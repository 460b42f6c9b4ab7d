"""What several tests need."""

import itertools

from outweave.letters import look
from outweave.marks import items_of
from outweave.rows import Maker
from outweave.spots import breaks, fits

OTHER_KINDS = [None, True, False, 1.0, 2.0, "1", "", "a", b"a", [], [1], (), (1,), {}, {1: 1}, {1}, object(), int]


class Odd:
    """A thing that can be neither compared, measured nor hashed."""

    def __eq__(self, other):
        raise RuntimeError("never compared")

    def __len__(self):
        raise RuntimeError("never measured")

    __hash__ = None


def short_texts(alphabet, longest):
    for length in range(longest + 1):
        for signs in itertools.product(alphabet, repeat=length):
            yield "".join(signs)


def letters_of(text):
    """The letters of a text without marks, all plain."""
    return [(sign, ".", ".", place) for place, sign in enumerate(text)]


def signs_of(letters):
    return "".join(letter[0] for letter in letters)


def cells(text):
    return sum(2 if "A" <= sign <= "Z" else 1 for sign in text)


def foldings_at_breaks(letters, wide):
    """All foldings at breaking places alone in which each line fits."""
    places = breaks(letters)
    for count in range(len(places)):
        for inner in itertools.combinations(places[:-1], count):
            ends = list(inner) + [len(letters)]
            stretches = list(zip([0] + ends, ends))
            if all(fits(letters, lo, hi, wide) for lo, hi in stretches):
                yield stretches


def nodes_of(trail):
    return [node for at in range(trail.last_at() + 1) for node in trail.nodes_at(at)]


def ways_from(trail, node, gone=()):
    """All (cost, names) from a node to an end that come to no node twice: no other is cheaper."""
    if trail.is_end(node):
        yield (0, [])
    for cost, name, beyond in trail.moves_from(node):
        if beyond not in gone and beyond != node:
            for rest, names in ways_from(trail, beyond, gone + (node,)):
                yield (cost + rest, [name] + names)


def least_from(trail, node):
    return min((cost for cost, names in ways_from(trail, node)), default=None)


def check_trail(case, trail):
    """What holds of every trail."""
    nodes = nodes_of(trail)
    case.assertEqual(len(nodes), len(set(nodes)))
    case.assertIn(trail.first_node(), nodes)
    for node in nodes:
        case.assertIs(type(node), tuple)
        case.assertIn(trail.is_end(node), (True, False))
        moves = trail.moves_from(node)
        case.assertIs(type(moves), list)
        case.assertEqual(len(moves), len({name for cost, name, beyond in moves}))
        for cost, name, beyond in moves:
            case.assertIs(type(cost), int)
            case.assertIs(type(name), str)
            case.assertIn(beyond, nodes)
            case.assertGreaterEqual(cost, 0 if beyond[0] > node[0] else 1)
            case.assertGreaterEqual(beyond[0], node[0])


def refused(case, error, call, *arguments):
    """The refusal that a call raises, which is just of this class."""
    with case.assertRaises(error) as caught:
        call(*arguments)
    case.assertIs(type(caught.exception), error)
    return caught.exception


def whole_parts(text, most):
    """The (look, word) of all parts of a text that is fed whole and closed."""
    maker = Maker(most)
    parts = [part for item in items_of(text) for part in maker.put(item)]
    return [(look(letters), word) for letters, word in parts + maker.finish()]


def some_text(chance, length):
    """A text of many rows, colours, anew signs, great letters and marks that are none."""
    bits = ["ab", "c ", "D", "  ", "e", "[a]", "[/b]", "[]", "[.]", "[/h]", "\n", "\t", "[[", "[", "/", "]", "F g"]
    weights = [chance.choice([1, 2, 8]) for bit in bits]
    return "".join(chance.choices(bits, weights, k=length))[:length]


def some_pieces(chance, text):
    pieces = []
    while text:
        cut = chance.choice([0, 1, 1, 2, 3, 9, 40])
        pieces.append(text[:cut])
        text = text[cut:]
    return pieces


def woven(chance, texts):
    """All pieces of some texts, by name, in an order in which each hand's stay in theirs; then the closes."""
    left = {name: some_pieces(chance, text) + [None] for name, text in texts.items()}
    while left:
        name = chance.choice(sorted(left))
        yield name, left[name].pop(0)
        if not left[name]:
            del left[name]
