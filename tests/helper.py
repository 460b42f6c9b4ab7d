"""What several tests need."""

import itertools

OTHER_KINDS = [None, True, False, 1.0, 2.0, "1", "", "a", b"a", [], [1], (), (1,), {}, {1: 1}, {1}, object(), int]


class Odd:
    """A thing that can be neither compared, measured nor hashed."""

    def __eq__(self, other):
        raise RuntimeError("never compared")

    def __len__(self):
        raise RuntimeError("never measured")

    __hash__ = None


def short_texts(alphabet, longest):
    for length in range(longest + 1):
        for signs in itertools.product(alphabet, repeat=length):
            yield "".join(signs)


def letters_of(text):
    """The letters of a text without marks, all plain."""
    return [(sign, ".", ".", place) for place, sign in enumerate(text)]


def signs_of(letters):
    return "".join(letter[0] for letter in letters)


def nodes_of(trail):
    return [node for at in range(trail.last_at() + 1) for node in trail.nodes_at(at)]


def ways_from(trail, node, gone=()):
    """All (cost, names) from a node to an end that come to no node twice: no other is cheaper."""
    if trail.is_end(node):
        yield (0, [])
    for cost, name, beyond in trail.moves_from(node):
        if beyond not in gone and beyond != node:
            for rest, names in ways_from(trail, beyond, gone + (node,)):
                yield (cost + rest, [name] + names)


def least_from(trail, node):
    return min((cost for cost, names in ways_from(trail, node)), default=None)


def check_trail(case, trail):
    """What holds of every trail."""
    nodes = nodes_of(trail)
    case.assertEqual(len(nodes), len(set(nodes)))
    case.assertIn(trail.first_node(), nodes)
    for node in nodes:
        case.assertIs(type(node), tuple)
        case.assertIn(trail.is_end(node), (True, False))
        moves = trail.moves_from(node)
        case.assertIs(type(moves), list)
        case.assertEqual(len(moves), len({name for cost, name, beyond in moves}))
        for cost, name, beyond in moves:
            case.assertIs(type(cost), int)
            case.assertIs(type(name), str)
            case.assertIn(beyond, nodes)
            case.assertGreaterEqual(cost, 0 if beyond[0] > node[0] else 1)
            case.assertGreaterEqual(beyond[0], node[0])


def refused(case, error, call, *arguments):
    """The refusal that a call raises, which is just of this class."""
    with case.assertRaises(error) as caught:
        call(*arguments)
    case.assertIs(type(caught.exception), error)
    return caught.exception
