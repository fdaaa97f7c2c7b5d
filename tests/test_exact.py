"""The calls 8 to 12 against a slow and plain working out, at full size, with other rows of bags, and in time."""

import itertools
import random
import time
import unittest

from tests.helpers import (GREATEST, allow, ask, bag, check, colouring, colourings, edge, independent, init, questions,
                           share, sets, unbag, weight)
from tests.slow import (Plain, any_graph, bag_calls, bags_by_elimination, pairs_in_bags, rerooted,
                        right_bags)

SHAPES = ("chain", "star", "any")


def told_of(graph, row, calls):
    """What these calls are answered, of the graph with this row of bags."""
    before = [*graph.calls(), *bag_calls(row), check()]
    told = ask(*before, *calls)
    assert told[len(before) - 1] == [0], "the bags are not right"
    return told[len(before):]


class AgainstThePlainWorkingOut(unittest.TestCase):
    def test_small_graphs_with_bags_of_many_shapes(self):
        draw = random.Random(51)
        uncolourable = 0
        for turn in range(600):
            nodes = draw.choice([1, 2, 3, 4, 4, 5, 5])
            row = right_bags(draw, range(nodes), draw.choice([1, 2, 3, 5, 8]), SHAPES[turn % 3])
            graph = any_graph(draw, nodes, row)
            calls = questions(nodes)
            expected = graph.answers_to(calls)
            uncolourable += [0] in expected
            self.assertEqual(told_of(graph, row, calls), expected)
        self.assertGreater(uncolourable, 60)

    def test_graphs_of_6_to_8_nodes(self):
        draw = random.Random(52)
        for turn in range(60):
            nodes = 6 + turn % 3
            row = right_bags(draw, range(nodes), draw.choice([1, 6, 12, 40]), SHAPES[turn // 3 % 3])
            graph = any_graph(draw, nodes, row)
            calls = questions(nodes, (2, 3))
            self.assertEqual(told_of(graph, row, calls), graph.answers_to(calls))

    def test_every_graph_of_4_nodes_in_one_bag(self):
        pairs = list(itertools.combinations(range(4), 2))
        for chosen in range(64):
            graph = Plain(4, [pair for k, pair in enumerate(pairs) if chosen >> k & 1], weights=[2, 1, 3, 2])
            calls = questions(4)
            self.assertEqual(told_of(graph, [(0, (2, 0, 3, 1))], calls), graph.answers_to(calls))

    def test_shapes_of_bags_by_name(self):
        rows = {
            "a chain": [(0, (0, 1)), (1, (1, 2)), (2, (2, 3)), (3, (3, 4))],
            "a star": [(0, (2,)), (1, (2, 0)), (1, (1, 2)), (1, (3, 2)), (1, (2, 4))],
            "repeated": [(0, (0, 1, 2)), (1, (2, 1, 0)), (1, (1, 0, 2)), (3, (1, 2, 3)), (4, (3, 2, 1)), (5, (3, 4))],
            "one within another": [(0, (1,)), (1, (1, 0, 2)), (2, (2, 0)), (3, (2,)), (4, (2, 3, 4)), (5, (4,))],
            "several on one": [(0, (0, 1, 2, 3)), (1, (0, 1)), (1, (2, 3, 4)), (1, (0, 3)), (1, (1, 2))],
            "none shared": [(0, (4, 0)), (1, (1,)), (1, (3, 2)), (3, (2,))],
        }
        draw = random.Random(53)
        for shape, row in rows.items():
            for _ in range(15):
                graph = any_graph(draw, 5, row)
                calls = questions(5)
                self.assertEqual(told_of(graph, row, calls), graph.answers_to(calls), shape)

    def test_nodes_of_a_bag_in_any_order(self):
        draw = random.Random(54)
        for orders in itertools.product(itertools.permutations((0, 1, 2)), itertools.permutations((1, 2, 3))):
            graph = any_graph(draw, 4, [(0, orders[0]), (1, orders[1])])
            calls = questions(4, (3,))
            self.assertEqual(told_of(graph, [(0, orders[0]), (1, orders[1])], calls), graph.answers_to(calls))


class WhatIsTold(unittest.TestCase):
    def test_a_colouring_and_an_independent_set_of_the_weight_answered(self):
        draw = random.Random(55)
        for turn in range(60):
            row = right_bags(draw, range(24), draw.choice([8, 20, 40]), SHAPES[turn % 3])
            graph = any_graph(draw, 24, row)
            best, *told = told_of(graph, row, [independent()] + [colouring(q) for q in range(1, 5)])
            self.assertEqual(len(best), 25)
            self.assertEqual(graph.weight_of(best[1:]), best[0])
            self.assertFalse(any(best[1 + a] and best[1 + b] for a, b in graph.edges))
            for q, colours in zip(range(1, 5), told):
                if colours[0] == 0:
                    self.assertEqual(colours, [0])
                    continue
                self.assertEqual(len(colours), 25)
                self.assertTrue(all(c < q and mask >> c & 1 for c, mask in zip(colours[1:], graph.masks)))
                self.assertFalse(any(colours[1 + a] == colours[1 + b] for a, b in graph.edges))

    def test_the_numbers_of_share_add_up_to_all_colourings(self):
        draw = random.Random(56)
        for turn in range(30):
            row = right_bags(draw, range(24), 24, SHAPES[turn % 3])
            graph = any_graph(draw, 24, row)
            for q in range(1, 5):
                count, *shares = told_of(graph, row, [colourings(q)] + [share(q, a) for a in range(24)])
                for a, told in enumerate(shares):
                    self.assertEqual(told[0], 0)
                    self.assertEqual([sum(told[1:])], count)
                    for colour in range(q):
                        if not graph.masks[a] >> colour & 1:
                            self.assertEqual(told[1 + colour], 0)

    def test_share_is_the_count_with_that_colour_alone_allowed(self):
        draw = random.Random(57)
        for turn in range(12):
            row = right_bags(draw, range(24), 30, SHAPES[turn % 3])
            graph = any_graph(draw, 24, row)
            a = draw.randrange(24)
            alone = [Plain(24, graph.edges, [1 << c & mask if node == a else mask
                                             for node, mask in enumerate(graph.masks)]) for c in range(4)]
            self.assertEqual(told_of(graph, row, [share(4, a)])[0][1:],
                             [told_of(limited, row, [colourings(4)])[0][0] for limited in alone])


class FullSize(unittest.TestCase):
    def test_no_edges_40_bags(self):
        for shape in SHAPES:
            row = right_bags(random.Random(58), range(24), 40, shape)
            self.assertEqual(len(row), 40)
            graph = Plain(24, weights=[GREATEST] * 24)
            for q in range(1, 5):
                self.assertEqual(told_of(graph, row, [colourings(q), colouring(q), share(q, 5)]),
                                 [[q ** 24], [1] + [0] * 24, [0] + [q ** 23] * q])
            self.assertEqual(told_of(graph, row, [sets(), independent()]),
                             [[2 ** 24], [24 * GREATEST] + [1] * 24])

    def test_a_path_of_24_nodes(self):
        graph = Plain(24, [(a, a + 1) for a in range(23)], weights=[GREATEST - a for a in range(24)])
        row = [(a, (a + 1, a)) for a in range(23)]
        self.assertEqual([told[0] for told in told_of(graph, row, [colourings(q) for q in range(1, 5)])],
                         [0, 2, 3 * 2 ** 23, 4 * 3 ** 23])
        fibonacci = [1, 2]
        while len(fibonacci) < 25:
            fibonacci.append(fibonacci[-1] + fibonacci[-2])
        self.assertEqual(told_of(graph, row, [sets(), independent(), colouring(2), share(4, 23)]),
                         [[fibonacci[24]], [12 * GREATEST - 132] + [1, 0] * 12, [1] + [0, 1] * 12, [0] + [3 ** 23] * 4])

    def test_a_ring_of_24_and_of_23_nodes(self):
        for nodes in (23, 24):
            graph = Plain(nodes, [(a, (a + 1) % nodes) for a in range(nodes)])
            row = [(a, (0, a + 1, a + 2)) for a in range(nodes - 2)]
            for q in range(1, 5):
                count = (q - 1) ** nodes + (-1) ** nodes * (q - 1)
                self.assertEqual(told_of(graph, row, [colourings(q), share(q, 7)]),
                                 [[count], [0] + [count // q] * q])

    def test_cliques_of_4_one_on_another(self):
        for shape in SHAPES:
            row = [(0, (0, 1, 2, 3))]
            for node in range(4, 24):
                parent = {"chain": node - 4, "star": 0, "any": (node * 7) % (node - 3)}[shape]
                row.append((parent + 1, (node, *row[parent][1][:3])))
            graph = Plain(24, pairs_in_bags(row))
            self.assertEqual(told_of(graph, row, [colourings(3), colourings(4), share(4, 23), colouring(3)]),
                             [[0], [24], [0, 6, 6, 6, 6], [0]])

    def test_graphs_of_four_parts_with_nothing_between_them(self):
        draw = random.Random(59)
        for _ in range(12):
            nodes = draw.sample(range(24), 24)
            parts = [sorted(nodes[at:at + 6]) for at in (0, 6, 12, 18)]
            plain, row = [], []
            for part in parts:
                own = right_bags(draw, range(6), 10, draw.choice(SHAPES))
                plain.append(any_graph(draw, 6, own))
                top, begin = draw.randrange(len(row) + 1), len(row)
                row += [(p + begin if p else min(begin, max(top, 1)), [part[a] for a in bag]) for p, bag in own]
            whole = Plain(24, [(part[a], part[b]) for part, g in zip(parts, plain) for a, b in g.edges],
                          spread(parts, [g.masks for g in plain]), spread(parts, [g.weights for g in plain]))
            self.assertEqual(told_of(whole, row, [colourings(3), colouring(3), sets(), independent()]),
                             put_together(parts, plain))


def spread(parts, rows):
    """One row for all nodes, of a row for each part."""
    placed = {node: number for part, row in zip(parts, rows) for node, number in zip(part, row)}
    return [placed[node] for node in range(24)]


def put_together(parts, plain):
    """What colourings(3), colouring(3), sets and independent are answered of all parts together."""
    counted, coloured, sets_counted, heaviest = [
        [graph.answers_to([call])[0] for graph in plain]
        for call in (colourings(3), colouring(3), sets(), independent())]
    count = sets_count = 1
    for told, others in zip(counted, sets_counted):
        count, sets_count = count * told[0], sets_count * others[0]
    first = [1] + spread(parts, [told[1:] for told in coloured]) if count else [0]
    best = [sum(told[0] for told in heaviest)] + spread(parts, [told[1:] for told in heaviest])
    return [[count], first, [sets_count], best]


class TwoRowsOfBags(unittest.TestCase):
    def test_the_same_bags_hung_on_another_of_them(self):
        draw = random.Random(60)
        for turn in range(40):
            nodes = draw.choice([3, 7, 12, 24])
            row = right_bags(draw, range(nodes), draw.choice([4, 24, 40]), SHAPES[turn % 3])
            graph = any_graph(draw, nodes, row)
            calls = questions(nodes, (draw.randrange(1, 5),))
            self.assertEqual(told_of(graph, rerooted(draw, row), calls), told_of(graph, row, calls))

    def test_bags_found_from_the_edges_alone(self):
        draw = random.Random(61)
        compared = 0
        while compared < 40:
            nodes = draw.choice([4, 8, 16, 24])
            row = right_bags(draw, range(nodes), nodes, draw.choice(SHAPES))
            graph = any_graph(draw, nodes, row)
            other = bags_by_elimination(draw, graph)
            if other is not None:
                calls = questions(nodes, (draw.randrange(1, 5),))
                self.assertEqual(told_of(graph, other, calls), told_of(graph, row, calls))
                compared += 1

    def test_bags_repeated_and_parts_of_bags_hung_on(self):
        draw = random.Random(62)
        for turn in range(30):
            nodes = draw.choice([4, 12, 24])
            row = right_bags(draw, range(nodes), 5, SHAPES[turn % 3])
            graph = any_graph(draw, nodes, row)
            longer = list(row)
            while len(longer) < 40:
                k = draw.randrange(len(longer))
                longer.append((k + 1, draw.sample(longer[k][1], draw.randrange(1, len(longer[k][1]) + 1))))
            calls = questions(nodes, (draw.randrange(1, 5),))
            self.assertEqual(told_of(graph, longer, calls), told_of(graph, row, calls))

    def test_an_edge_off_and_on_again_and_the_bags_told_anew(self):
        draw = random.Random(63)
        for turn in range(20):
            row = right_bags(draw, range(12), 12, SHAPES[turn % 3])
            graph = any_graph(draw, 12, row)
            calls = questions(12, (2, 3))
            expected = told_of(graph, row, calls)
            for a, b in graph.edges[:2]:
                between = [*graph.calls(), *bag_calls(row), edge(b, a, 0), sets(), edge(b, a)]
                self.assertEqual(ask(*between, *calls)[len(between):], expected)
            between = [*graph.calls(), *bag_calls(row), unbag(), sets(), *bag_calls(rerooted(draw, row))]
            self.assertEqual(ask(*between, *calls)[len(between):], expected)

    def test_of_right_bags_a_node_below_one_and_elsewhere_is_in_that_one(self):
        draw = random.Random(64)
        right = wrong = 0
        for _ in range(3000):
            nodes = draw.choice([2, 3, 4])
            row = [(draw.randrange(k) + 1 if k else 0, draw.sample(range(nodes), draw.randrange(1, nodes + 1)))
                   for k in range(draw.choice([2, 3, 4]))]
            if ask(init(nodes), *bag_calls(row), check())[-1] == [0]:
                right += 1
                self.assertTrue(all(meets_the_rest_in_it(row, k) for k in range(len(row))))
            else:
                wrong += 1
        self.assertGreater(min(right, wrong), 300)


def meets_the_rest_in_it(row, k):
    """Whether all nodes that are at or below bag k and elsewhere too are in bag k."""
    below = {k}
    for j, (p, _) in enumerate(row):
        if p - 1 in below:
            below.add(j)
    inside = {node for j, (_, nodes) in enumerate(row) if j in below for node in nodes}
    outside = {node for j, (_, nodes) in enumerate(row) if j not in below for node in nodes}
    return inside & outside <= set(row[k][1])


class InTime(unittest.TestCase):
    """Seconds of the processor's, far above what is needed and far below what all ways together would take."""

    def heavy_graph(self, shape, edges=()):
        row = [(0, (0, 1, 2, 3))]
        for node in range(4, 24):
            parent = {"chain": node - 4, "star": 0}[shape]
            row.append((parent + 1, (*row[parent][1][1:], node)))
        while len(row) < 40:
            row.append((len(row) - 20, row[len(row) - 21][1][::-1]))
        return [*Plain(24, edges).calls(), *[bag(p, *nodes) for p, nodes in row]]

    def test_each_call(self):
        for shape in ("chain", "star"):
            before = self.heavy_graph(shape)
            for call in (check(), colourings(4), colouring(4), share(4, 0), share(4, 23), sets(), independent()):
                begin = time.process_time()
                ask(*before, call)
                self.assertLess(time.process_time() - begin, 1, call)

    def test_200_calls(self):
        before = self.heavy_graph("chain")
        asked = [share(4, 0), colourings(4), colouring(4), independent(), share(4, 23), sets()] * 40
        calls = [*before, *asked][:200]
        begin = time.process_time()
        told = ask(*calls)
        self.assertLess(time.process_time() - begin, 10)
        self.assertEqual(told[41:44], [[0] + [4 ** 23] * 4, [4 ** 24], [1] + [0] * 24])
        self.assertEqual(told[47:53], told[41:47])


class NothingChangedByAsking(unittest.TestCase):
    def test_the_same_later_answers_with_and_without(self):
        draw = random.Random(65)
        for turn in range(40):
            nodes = draw.choice([1, 2, 5, 10])
            row = right_bags(draw, range(nodes), 8, SHAPES[turn % 3])
            graph = any_graph(draw, nodes, row)
            changes = [*graph.calls(), *bag_calls(row), edge(0, nodes - 1, 0), weight(0, 7), allow(nodes - 1, 6),
                       unbag(), *bag_calls(rerooted(draw, row))]
            with_questions, places = [], []
            for call in changes:
                places.append(len(with_questions))
                with_questions += [call] + draw.choices(questions(nodes) + [check(), [7]], k=draw.randrange(4))
                with_questions += draw.choices(refused_calls(nodes), k=draw.randrange(3))
            told = ask(*with_questions, check(), *questions(nodes))
            plain = ask(*changes, check(), *questions(nodes))
            end = len(with_questions)
            self.assertEqual([told[at] for at in places] + told[end:], plain)

    def test_each_call_asked_twice_answers_the_same(self):
        draw = random.Random(66)
        row = right_bags(draw, range(9), 12, "any")
        graph = any_graph(draw, 9, row)
        calls = questions(9)
        once = told_of(graph, row, calls)
        self.assertEqual(told_of(graph, row, calls + calls[::-1]), once + once[::-1])


def refused_calls(nodes):
    """Calls that are refused of a graph with so many nodes and any bags, right or not."""
    return [init(0), init(25), edge(0, 0), edge(0, nodes), weight(nodes, 1), allow(nodes, 3), allow(0, 16), bag(41, 0),
            colourings(0), colourings(5), colouring(GREATEST), share(0, 0), share(2, nodes), share(5, nodes)]


if __name__ == "__main__":
    unittest.main()
