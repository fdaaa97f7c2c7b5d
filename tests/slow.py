"""Graphs with the answers worked out slowly and plainly, over all ways to give the nodes values; and right bags.

Nothing here looks at the bags when it answers.
"""

import itertools

from tests.helpers import GREATEST, allow, bag, edge, init, weight


class Plain:
    """A graph; edges are pairs of nodes."""

    def __init__(self, nodes, edges=(), masks=None, weights=None):
        self.nodes = nodes
        self.edges = sorted({tuple(sorted(pair)) for pair in edges})
        self.masks = list(masks) if masks else [15] * nodes
        self.weights = list(weights) if weights else [1] * nodes

    def calls(self):
        """The calls that make this graph of a new object."""
        calls = [init(self.nodes)] + [edge(*pair) for pair in self.edges]
        calls += [allow(a, mask) for a, mask in enumerate(self.masks) if mask != 15]
        return calls + [weight(a, w) for a, w in enumerate(self.weights) if w != 1]

    def all_colourings(self, q):
        """In their order."""
        allowed = [[c for c in range(q) if mask >> c & 1] for mask in self.masks]
        return [way for way in itertools.product(*allowed) if all(way[a] != way[b] for a, b in self.edges)]

    def all_sets(self):
        """In their order, having node 0 first."""
        ways = itertools.product((1, 0), repeat=self.nodes)
        return [way for way in ways if not any(way[a] and way[b] for a, b in self.edges)]

    def weight_of(self, way):
        return sum(w for w, chosen in zip(self.weights, way) if chosen)

    def answers_to(self, calls):
        """To the calls 8 to 12, with bags that are right."""
        found = {}
        for q in {call[1] for call in calls if call[0] in (8, 9, 10)}:
            found[q] = self.all_colourings(q)
        independent_sets = self.all_sets()
        return [self.answer_to(call, found, independent_sets) for call in calls]

    def answer_to(self, call, found, independent_sets):
        if call[0] == 11:
            return [len(independent_sets)]
        if call[0] == 12:
            heaviest = max(self.weight_of(way) for way in independent_sets)
            return [heaviest, *next(way for way in independent_sets if self.weight_of(way) == heaviest)]
        ways = found[call[1]]
        if call[0] == 8:
            return [len(ways)]
        if call[0] == 9:
            return [1, *ways[0]] if ways else [0]
        return [0] + [sum(way[call[2]] == colour for way in ways) for colour in range(call[1])]


def right_bags(draw, nodes, count, shape):
    """Right bags for nodes, a list of numbers, as pairs of p and nodes: count bags, or more where it must be.

    Each new bag takes some nodes of its parent and some that are in no bag yet; so each node's bags hang together.
    shape is "chain", "star" or "any"; it tells below which bag the next one comes.
    """
    waiting = draw.sample(nodes, len(nodes))
    row = []
    while waiting or len(row) < count:
        parent = {"chain": len(row) - 1, "star": 0, "any": draw.randrange(len(row) or 1)}[shape]
        inherited = list(row[parent][1]) if row else []
        least = 1 if waiting and len(row) + len(waiting) >= count else 0
        kept = draw.sample(inherited, draw.randrange(min(len(inherited), 4 - least) + 1))
        new = waiting[:max(least, draw.randrange(5 - len(kept)))]
        if kept + new:
            waiting = waiting[len(new):]
            row.append((parent + 1 if row else 0, draw.sample(kept + new, len(kept + new))))
    return row


def bag_calls(row):
    return [bag(p, *nodes) for p, nodes in row]


def pairs_in_bags(row):
    return sorted({tuple(sorted(pair)) for _, nodes in row for pair in itertools.combinations(nodes, 2)})


def any_graph(draw, nodes, row):
    """A graph for which this row of bags is right, with some masks and weights."""
    likely = draw.choice([0, 0.3, 0.6, 0.9, 1])
    edges = [pair for pair in pairs_in_bags(row) if draw.random() < likely]
    masks = [draw.choice([15, 15, 15, 15, draw.randrange(16), draw.choice([3, 6, 7, 14])]) for _ in range(nodes)]
    weights = [draw.choice([1, 1, 0, 2, 3, GREATEST]) for _ in range(nodes)]
    return Plain(nodes, edges, masks if draw.randrange(3) else None, weights if draw.randrange(4) else None)


def bags_by_elimination(draw, graph):
    """A row of right bags found from the edges alone, by taking off node after node; None if a bag has above 4."""
    near = {a: set() for a in range(graph.nodes)}
    for a, b in graph.edges:
        near[a].add(b)
        near[b].add(a)
    taken = []
    for node in draw.sample(range(graph.nodes), graph.nodes):
        if len(near[node]) > 3:
            return None
        taken.append((node, near.pop(node)))
        for other in taken[-1][1]:
            near[other] |= taken[-1][1] - {other}
            near[other].discard(node)
    row, number = [], {}
    for node, others in reversed(taken):
        below = max([number[other] for other in others], default=draw.randrange(len(row) or 1))
        number[node] = len(row)
        row.append((below + 1 if row else 0, draw.sample([node, *others], len(others) + 1)))
    return row


def rerooted(draw, row):
    """The same bags, hung on another of them: the same pairs of bags are next to one another."""
    near = {k: [] for k in range(len(row))}
    for k, (p, _) in enumerate(row):
        if p:
            near[k].append(p - 1)
            near[p - 1].append(k)
    turned, number, found = [], {}, [(draw.randrange(len(row)), None)]
    while found:
        k, parent = found.pop(draw.randrange(len(found)))
        number[k] = len(turned)
        turned.append((0 if parent is None else number[parent] + 1, row[k][1]))
        found += [(other, k) for other in near[k] if other not in number]
    return turned
