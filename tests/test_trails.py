"""[31], [32], [33] trails, prices, fair prices and listed trails; [3] the asker's own."""

import random
import unittest

from helper import OTHER_KINDS, Odd, check_trail, least_from, nodes_of
from outweave.trails import Listed, Trail, fair, priced, walked, way_of

GREAT = 10 ** 60


def diamond():
    """Two ways from (0, 0) to (2, 0), and a node from which none leads on."""
    return Listed([1, 3, 1], [
        ((0, 0), 5, "up", (1, 0)), ((0, 0), 1, "down", (1, 1)), ((0, 0), 0, "lost", (1, 2)),
        ((1, 0), 0, "on", (2, 0)), ((1, 1), 3, "on", (2, 0))], [(2, 0)])


def some_trail(chance):
    sizes = [chance.randint(1, 3) for at in range(chance.randint(1, 4))]
    nodes = [(at, state) for at, size in enumerate(sizes) for state in range(size)]
    moves = []
    for node in nodes:
        for name in "pqrs"[:chance.randint(0, 4)]:
            beyond = chance.choice([other for other in nodes if other[0] >= node[0]])
            moves.append((node, chance.randint(0 if beyond[0] > node[0] else 1, 5), name, beyond))
    chance.shuffle(moves)
    return Listed(sizes, moves, [node for node in nodes if chance.random() < 0.25])


def is_fair(trail, prices):
    """What [32] says of a dict of numbers and Nones, word by word."""
    for node in nodes_of(trail):
        own = prices[node]
        if trail.is_end(node) and (own is None or own > 0):
            return False
        for cost, name, beyond in trail.moves_from(node):
            if own is None and prices[beyond] is not None:
                return False
            if own is not None and prices[beyond] is not None and own > cost + prices[beyond]:
                return False
    return True


class Ring(Trail):
    """A trail of another make: its states are texts, and all lie in one at."""

    def first_node(self):
        return (0, "a")

    def last_at(self):
        return 0

    def nodes_at(self, at):
        return [(0, sign) for sign in "abcdef"]

    def moves_from(self, node):
        beyond = "abcdefa"["abcdef".index(node[1]) + 1]
        return [(2, "round", (0, beyond)), (1, "stay", node)]

    def is_end(self, node):
        return node == (0, "f")


class ListedTrails(unittest.TestCase):
    def test_what_it_was_made_of(self):
        trail = diamond()
        self.assertIsInstance(trail, Trail)
        self.assertEqual(trail.first_node(), (0, 0))
        self.assertEqual(trail.last_at(), 2)
        self.assertEqual([trail.nodes_at(at) for at in range(3)], [
            [(0, 0)], [(1, 0), (1, 1), (1, 2)], [(2, 0)]])
        self.assertEqual([trail.is_end(node) for node in nodes_of(trail)], [False] * 4 + [True])
        check_trail(self, trail)

    def test_moves_come_in_the_order_of_the_list(self):
        trail = Listed([1, 2], [
            ((0, 0), 4, "z", (1, 1)), ((1, 0), 2, "m", (1, 1)), ((0, 0), 9, "a", (1, 0)),
            ((0, 0), 0, "k", (1, 1))], [(1, 1)])
        self.assertEqual(trail.moves_from((0, 0)), [(4, "z", (1, 1)), (9, "a", (1, 0)), (0, "k", (1, 1))])
        self.assertEqual(trail.moves_from((1, 0)), [(2, "m", (1, 1))])
        self.assertEqual(trail.moves_from((1, 1)), [])

    def test_the_least(self):
        trail = Listed([1], [], [])
        self.assertEqual((trail.last_at(), trail.nodes_at(0), trail.moves_from((0, 0))), (0, [(0, 0)], []))
        self.assertIs(trail.is_end((0, 0)), False)
        self.assertIs(Listed([1], [], [(0, 0)]).is_end((0, 0)), True)

    def test_what_is_handed_in_stays_and_may_be_changed_behind(self):
        sizes, moves, ends = [1, 1], [((0, 0), 1, "go", (1, 0))], [(1, 0)]
        trail = Listed(sizes, moves, ends)
        priced(trail)
        self.assertEqual((sizes, moves, ends), ([1, 1], [((0, 0), 1, "go", (1, 0))], [(1, 0)]))
        sizes.append(3)
        moves.clear()
        ends.append((0, 0))
        self.assertEqual((trail.last_at(), trail.moves_from((0, 0)), trail.is_end((0, 0))), (
            1, [(1, "go", (1, 0))], False))

    def test_what_was_told_and_is_changed(self):
        trail = diamond()
        trail.nodes_at(1).clear()
        trail.moves_from((0, 0)).clear()
        trail.moves_from((2, 0)).append((0, "x", (2, 0)))
        self.assertEqual(trail.nodes_at(1), [(1, 0), (1, 1), (1, 2)])
        self.assertEqual(len(trail.moves_from((0, 0))), 3)
        self.assertEqual(trail.moves_from((2, 0)), [])


class Prices(unittest.TestCase):
    def test_of_each_node(self):
        self.assertEqual(priced(diamond()), {(0, 0): 4, (1, 0): 0, (1, 1): 3, (1, 2): None, (2, 0): 0})

    def test_without_a_way(self):
        self.assertEqual(priced(Listed([1, 1], [((0, 0), 1, "go", (1, 0))], [])), {(0, 0): None, (1, 0): None})

    def test_an_end_costs_nothing_whatever_leads_on(self):
        trail = Listed([1, 1], [((0, 0), 3, "go", (1, 0))], [(0, 0), (1, 0)])
        self.assertEqual(priced(trail), {(0, 0): 0, (1, 0): 0})

    def test_moves_within_an_at(self):
        nodes = [(0, state) for state in range(40)]
        for step in (1, -1):
            row = [(node, 2, "go", nodes[(state + step) % 40]) for state, node in enumerate(nodes)]
            prices = priced(Listed([40], row, [(0, 20)]))
            self.assertEqual([prices[node] for node in nodes], [(20 - k) * step % 40 * 2 for k in range(40)])
        self.assertEqual(priced(Ring()), {(0, sign): 2 * k for k, sign in enumerate("fedcba")})

    def test_costs_of_nought_and_great_ones(self):
        trail = Listed([1, 1, 1], [
            ((0, 0), 0, "a", (1, 0)), ((0, 0), GREAT, "b", (2, 0)), ((1, 0), GREAT - 1, "c", (2, 0))], [(2, 0)])
        self.assertEqual(priced(trail), {(0, 0): GREAT - 1, (1, 0): GREAT - 1, (2, 0): 0})
        self.assertEqual(way_of(trail), (GREAT - 1, ["a", "c"]))

    def test_against_all_ways(self):
        chance = random.Random(32)
        for again in range(300):
            trail = some_trail(chance)
            check_trail(self, trail)
            self.assertEqual(priced(trail), {node: least_from(trail, node) for node in nodes_of(trail)})

    def test_a_long_trail(self):
        moves = [((at, 0), at % 3, "go", (at + 1, 0)) for at in range(2000)]
        self.assertEqual(priced(Listed([1] * 2001, moves, [(2000, 0)]))[(0, 0)], 1999)

    def test_the_askers_own(self):
        trail = diamond()
        prices = priced(trail)
        prices.clear()
        self.assertEqual(len(priced(trail)), 5)
        self.assertEqual(priced(trail), priced(trail))


class Ways(unittest.TestCase):
    def test_the_cheapest(self):
        self.assertEqual(way_of(diamond()), (4, ["down", "on"]))
        self.assertEqual(way_of(Ring()), (10, ["round"] * 5))

    def test_a_beginning_that_is_an_end(self):
        self.assertEqual(way_of(Listed([1], [], [(0, 0)])), (0, []))
        trail = Listed([1, 1], [((0, 0), 1, "go", (1, 0))], [(0, 0), (1, 0)])
        self.assertEqual(way_of(trail), (0, []))

    def test_none(self):
        self.assertIsNone(way_of(Listed([1], [], [])))
        self.assertIsNone(way_of(Listed([1, 2], [((0, 0), 0, "go", (1, 1))], [(1, 0)])))
        self.assertIsNone(way_of(Listed([2], [((0, 0), 1, "stay", (0, 0))], [(0, 1)])))

    def test_moves_of_no_cost(self):
        trail = Listed([1, 1, 1], [((0, 0), 0, "a", (1, 0)), ((1, 0), 0, "b", (2, 0))], [(2, 0)])
        self.assertEqual(way_of(trail), (0, ["a", "b"]))

    def test_it_costs_what_is_told_and_no_other_is_cheaper(self):
        chance = random.Random(31)
        ways = 0
        for again in range(300):
            trail = some_trail(chance)
            way = way_of(trail)
            least = least_from(trail, trail.first_node())
            if least is None:
                self.assertIsNone(way)
                continue
            ways += 1
            self.assertEqual((type(way), type(way[1])), (tuple, list))
            self.assertEqual(way[0], least)
            self.assertEqual(walked(trail, way[1]), least)
            self.assertEqual(way_of(trail), way)
        self.assertGreater(ways, 50)

    def test_the_askers_own(self):
        trail = diamond()
        way_of(trail)[1].clear()
        self.assertEqual(way_of(trail), (4, ["down", "on"]))


class Walked(unittest.TestCase):
    def test_ways(self):
        self.assertEqual(walked(diamond(), ["up", "on"]), 5)
        self.assertEqual(walked(diamond(), ["down", "on"]), 4)
        self.assertEqual(walked(Ring(), ["round", "stay", "stay"] + ["round"] * 4), 12)
        self.assertEqual(walked(Ring(), ["round"] * 11), 22)

    def test_no_ways(self):
        for names in ([], ["up"], ["lost"], ["lost", "on"], ["on"], ["up", "on", "on"], ["Up", "on"], [""]):
            self.assertIsNone(walked(diamond(), names), names)

    def test_no_moves(self):
        self.assertEqual(walked(Listed([1], [], [(0, 0)]), []), 0)
        self.assertIsNone(walked(Listed([1], [], [(0, 0)]), ["go"]))
        self.assertIsNone(walked(Listed([1], [], []), []))

    def test_beyond_an_end(self):
        trail = Listed([1, 1, 1], [((0, 0), 1, "a", (1, 0)), ((1, 0), GREAT, "b", (2, 0))], [(1, 0), (2, 0)])
        self.assertEqual(walked(trail, ["a"]), 1)
        self.assertEqual(walked(trail, ["a", "b"]), GREAT + 1)

    def test_names_stay(self):
        names = ["up", "on"]
        walked(diamond(), names)
        self.assertEqual(names, ["up", "on"])


class Fair(unittest.TestCase):
    def with_price(self, node, price):
        prices = priced(diamond())
        prices[node] = price
        return fair(diamond(), prices)

    def test_told_prices_are_fair(self):
        chance = random.Random(33)
        for again in range(200):
            trail = some_trail(chance)
            self.assertIs(fair(trail, priced(trail)), True)
        self.assertIs(fair(Ring(), priced(Ring())), True)

    def test_lower_prices(self):
        self.assertIs(self.with_price((0, 0), 3), True)
        self.assertIs(self.with_price((0, 0), -GREAT), True)
        self.assertIs(fair(diamond(), {node: 0 for node in nodes_of(diamond())}), True)

    def test_too_high(self):
        self.assertIs(self.with_price((0, 0), 5), False)
        self.assertIs(self.with_price((1, 0), 1), False)
        self.assertIs(self.with_price((1, 1), 4), False)
        self.assertIs(self.with_price((2, 0), 1), False)

    def test_ends(self):
        self.assertIs(self.with_price((2, 0), None), False)
        trail = Listed([1], [], [(0, 0)])
        self.assertEqual([fair(trail, {(0, 0): price}) for price in (0, -1, 1, None)], [True, True, False, False])

    def test_none(self):
        self.assertIs(self.with_price((1, 0), None), False)
        self.assertIs(self.with_price((0, 0), None), False)
        self.assertIs(self.with_price((1, 2), 3), False)
        self.assertIs(self.with_price((1, 2), 4), True)
        self.assertIs(self.with_price((1, 2), 7), True)
        lonely = Listed([1], [], [])
        self.assertEqual([fair(lonely, {(0, 0): price}) for price in (None, 5, -5)], [True] * 3)

    def test_each_node_and_nothing_else(self):
        for node in nodes_of(diamond()):
            prices = priced(diamond())
            del prices[node]
            self.assertIs(fair(diamond(), prices), False)
            prices[(7, 7)] = None
            self.assertIs(fair(diamond(), prices), False)
        for key in ((3, 0), (1, 3), "x", None, 5, ((0, 0),), (0,)):
            prices = priced(diamond())
            prices[key] = None
            self.assertIs(fair(diamond(), prices), False)

    def test_a_truth_is_no_number_of_a_node(self):
        lonely = Listed([1], [], [])
        for key in ((False, 0), (0, False), (0.0, 0)):
            self.assertIs(fair(lonely, {key: 0}), False, key)

    def test_other_kinds(self):
        lonely = Listed([1], [], [(0, 0)])
        for thing in OTHER_KINDS + [Odd(), [((0, 0), 0)], {}, 0]:
            self.assertIs(fair(lonely, thing), False)
        for thing in OTHER_KINDS[1:] + [Odd(), 0.0, -1.0]:
            self.assertIs(fair(lonely, {(0, 0): thing}), False)

    def test_against_the_words(self):
        chance = random.Random(34)
        seen = {True: 0, False: 0}
        for again in range(600):
            trail = some_trail(chance)
            prices = priced(trail)
            for node in chance.sample(nodes_of(trail), min(2, len(prices))):
                prices[node] = chance.choice([None, -2, 0, 1, 3])
            self.assertIs(fair(trail, prices), is_fair(trail, prices))
            seen[is_fair(trail, prices)] += 1
        self.assertGreater(min(seen.values()), 50)

    def test_with_fair_prices_no_way_costs_less(self):
        chance = random.Random(35)
        for again in range(300):
            trail = some_trail(chance)
            prices = {node: chance.choice([None, -1, 0, 1, 2]) for node in nodes_of(trail)}
            if fair(trail, prices):
                for node in nodes_of(trail):
                    least = least_from(trail, node)
                    if least is not None:
                        self.assertLessEqual(prices[node], least)

    def test_what_is_handed_in_stays(self):
        prices = priced(diamond())
        before = list(prices.items())
        fair(diamond(), prices)
        self.assertEqual(list(prices.items()), before)


if __name__ == "__main__":
    unittest.main()
