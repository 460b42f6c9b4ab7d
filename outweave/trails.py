"""Trails: nodes and moves with costs, the prices of the nodes, and the cheapest ways."""

from outweave.sizes import is_whole


class Trail:
    pass


class Listed(Trail):
    def __init__(self, sizes, moves, ends):
        self.sizes = list(sizes)
        self.moves_by_node = {}
        for move in moves:
            self.moves_by_node.setdefault(move[0], []).append((move[1], move[2], move[3]))
        self.end_nodes = {}
        for node in ends:
            self.end_nodes[node] = True

    def first_node(self):
        return (0, 0)

    def last_at(self):
        return len(self.sizes) - 1

    def nodes_at(self, at):
        return [(at, state) for state in range(self.sizes[at])]

    def moves_from(self, node):
        return list(self.moves_by_node.get(node, []))

    def is_end(self, node):
        return node in self.end_nodes


def all_nodes(trail):
    nodes = []
    for at in range(trail.last_at() + 1):
        nodes.extend(trail.nodes_at(at))
    return nodes


def cost_over(move, prices):
    beyond = prices[move[2]]
    return None if beyond is None else move[0] + beyond


def least_cost(moves, prices):
    costs = [cost_over(move, prices) for move in moves]
    return min([cost for cost in costs if cost is not None], default=None)


# Moves within an at cost 1 at least, so its prices sink until they stand still: then all are least.
def price_nodes(trail, at, prices):
    moves = {}
    for node in trail.nodes_at(at):
        moves[node] = trail.moves_from(node)
        prices[node] = 0 if trail.is_end(node) else None
    changed = True
    while changed:
        changed = False
        for node in moves:
            cost = least_cost(moves[node], prices)
            if cost is not None and (prices[node] is None or cost < prices[node]):
                prices[node] = cost
                changed = True


def priced(trail):
    prices = {}
    # From the last at down: what lies beyond a move has its price already, or lies in the same at.
    for at in range(trail.last_at(), -1, -1):
        price_nodes(trail, at, prices)
    return prices


def first_cheapest(moves, prices):
    least = least_cost(moves, prices)
    return [move for move in moves if cost_over(move, prices) == least][0]


# Of several cheapest moves the first is taken: so a trail chooses by the order of its moves.
def way_of(trail):
    prices = priced(trail)
    node = trail.first_node()
    cost = prices[node]
    if cost is None:
        return None
    names = []
    while not trail.is_end(node):
        move = first_cheapest(trail.moves_from(node), prices)
        names.append(move[1])
        node = move[2]
    return (cost, names)


def walked(trail, names):
    node = trail.first_node()
    cost = 0
    for name in names:
        taken = [move for move in trail.moves_from(node) if move[1] == name]
        if len(taken) == 0:
            return None
        cost = cost + taken[0][0]
        node = taken[0][2]
    return cost if trail.is_end(node) else None


# To Python (0, False) and (0, 0) are the same key, but False is no whole number, so no node has it.
def is_same(one, other):
    if isinstance(one, tuple) and isinstance(other, tuple):
        return len(one) == len(other) and all([is_same(a, b) for a, b in zip(one, other)])
    return is_whole(one) == is_whole(other) and one == other


def has_just(prices, nodes):
    keys = {}
    for key in prices:
        keys[key] = key
    return len(keys) == len(nodes) and all([node in keys and is_same(keys[node], node) for node in nodes])


def is_fair_at(trail, node, prices):
    price = prices[node]
    if trail.is_end(node) and (price is None or price > 0):
        return False
    least = least_cost(trail.moves_from(node), prices)
    return least is None or (price is not None and price <= least)


def fair(trail, prices):
    nodes = all_nodes(trail)
    if not isinstance(prices, dict) or not has_just(prices, nodes):
        return False
    if not all([price is None or is_whole(price) for price in prices.values()]):
        return False
    return all([is_fair_at(trail, node, prices) for node in nodes])
