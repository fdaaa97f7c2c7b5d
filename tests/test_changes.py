"""The calls 0 to 5: what they answer, what they refuse, and which refusal is told first."""

import unittest

from baggedgraph.changes import set_mask, set_weight, start_graph
from baggedgraph.state import Holder
from tests.helpers import GREATEST, allow, ask, bag, check, edge, init, last, unbag, weight


def chain(count):
    """An init of two nodes and so many bags of node 0, each below the one before it."""
    return [init(2)] + [bag(p, 0) for p in range(count)]


class NoGraphYet(unittest.TestCase):
    def test_every_call_but_init_is_refused(self):
        calls = [edge(0, 1), weight(0, 1), allow(0, 1), bag(0, 0), unbag(), check(),
                 [7], [8, 2], [9, 2], [10, 2, 0], [11], [12]]
        self.assertEqual(ask(*calls), [[-5]] * len(calls))

    def test_it_is_told_before_every_other_refusal(self):
        calls = [edge(0, 0), edge(GREATEST, 0), weight(GREATEST, 0), allow(24, 16), bag(1, 0),
                 bag(0), bag(0, 0, 0), bag(7, *range(16)), [8, 0], [9, 5], [10, 0, GREATEST]]
        self.assertEqual(ask(*calls), [[-5]] * len(calls))

    def test_a_refused_init_gives_no_graph(self):
        self.assertEqual(ask(init(0), check(), init(25), edge(0, 1), init(2), edge(0, 1)),
                         [[-1], [-5], [-1], [-5], [0], [0]])


class Init(unittest.TestCase):
    def test_1_to_24_nodes(self):
        for nodes in range(1, 25):
            self.assertEqual(ask(init(nodes), weight(nodes - 1, 5), weight(nodes, 5)), [[0], [0], [-1]])

    def test_other_numbers_of_nodes_are_refused(self):
        for nodes in (0, 25, 26, 255, 4294967294, GREATEST):
            self.assertEqual(ask(init(nodes)), [[-1]])

    def test_what_is_there_at_first(self):
        holder = Holder()
        self.assertIsNone(holder.graph)
        self.assertEqual(start_graph(holder, 3), [0])
        self.assertEqual(holder.graph.weights, [1, 1, 1])
        self.assertEqual(holder.graph.masks, [15, 15, 15])
        self.assertEqual(holder.graph.linked, [[False] * 3] * 3)
        self.assertEqual((holder.graph.bags, holder.graph.parents), ([], []))

    def test_begins_anew_without_edges_and_bags(self):
        self.assertEqual(ask(init(3), edge(0, 1), bag(0, 0), bag(1, 1), init(2),
                             check(), bag(1, 0), bag(0, 0), bag(1, 1), check()),
                         [[0], [0], [0], [1], [0], [1, 0, 0], [-1], [0], [1], [0]])

    def test_begins_anew_with_weights_and_masks_as_at_first(self):
        holder = Holder()
        start_graph(holder, 2)
        set_weight(holder.graph, 1, 9)
        set_mask(holder.graph, 0, 3)
        start_graph(holder, 2)
        self.assertEqual((holder.graph.weights, holder.graph.masks), ([1, 1], [15, 15]))

    def test_the_number_of_nodes_is_the_new_one(self):
        self.assertEqual(ask(init(2), weight(2, 1), init(3), weight(2, 1), init(1), weight(1, 1)),
                         [[0], [-1], [0], [0], [0], [-1]])

    def test_refused_leaves_graph_and_bags(self):
        before = [init(2), edge(0, 1), bag(0, 0), bag(1, 1)]
        for nodes in (0, 25, GREATEST):
            self.assertEqual(ask(*before, init(nodes), check(), bag(2, 0, 1), weight(1, 1), weight(2, 1))[4:],
                             [[-1], [2, 0, 1], [2], [0], [-1]])


class Edge(unittest.TestCase):
    def test_answers_0_on_and_off(self):
        self.assertEqual(ask(init(24), edge(0, 23), edge(23, 0, 0), edge(5, 6, 0), edge(5, 6, GREATEST)),
                         [[0]] * 5)

    def test_an_end_that_is_no_node(self):
        for a, b in ((0, 3), (3, 0), (3, 4), (GREATEST, 0), (0, GREATEST), (3, 3), (GREATEST, GREATEST)):
            for on in (0, 1):
                self.assertEqual(last(init(3), edge(a, b, on)), [-1])

    def test_from_a_node_to_itself(self):
        for on in (0, 1, GREATEST):
            self.assertEqual(last(init(3), edge(2, 2, on)), [-1])
        self.assertEqual(last(init(1), edge(0, 0)), [-1])

    def test_any_on_but_0_puts_it_on(self):
        for on in (1, 2, 256, 65536, 2147483648, GREATEST):
            self.assertEqual(last(init(2), bag(0, 0), bag(1, 1), edge(0, 1, on), check()), [2, 0, 1])

    def test_0_takes_it_off_from_either_end(self):
        bags = [init(2), bag(0, 0), bag(1, 1)]
        for on in ((0, 1), (1, 0)):
            for off in ((0, 1), (1, 0)):
                self.assertEqual(last(*bags, edge(*on), edge(*off, 0), check()), [0])

    def test_twice_on_is_once_on(self):
        bags = [init(2), bag(0, 0), bag(1, 1)]
        self.assertEqual(ask(*bags, edge(0, 1), edge(1, 0), check(), edge(0, 1, 0), check(),
                             edge(0, 1, 0), check(), edge(1, 0), check())[5:],
                         [[2, 0, 1], [0], [0], [0], [0], [0], [2, 0, 1]])

    def test_only_that_edge_is_changed(self):
        bags = [init(4), bag(0, 0), bag(1, 1), bag(2, 2), bag(3, 3)]
        self.assertEqual(last(*bags, edge(0, 1), edge(2, 3), edge(0, 1, 0), check()), [2, 2, 3])


class Weight(unittest.TestCase):
    def test_every_node_takes_every_weight(self):
        for a in (0, 23):
            for w in (0, 1, 65536, GREATEST):
                self.assertEqual(last(init(24), weight(a, w)), [0])

    def test_no_node(self):
        for a in (3, 24, GREATEST):
            self.assertEqual(last(init(3), weight(a, 1)), [-1])

    def test_the_weight_is_kept_for_that_node_alone(self):
        holder = Holder()
        start_graph(holder, 3)
        self.assertEqual(set_weight(holder.graph, 1, GREATEST), [0])
        self.assertEqual(holder.graph.weights, [1, GREATEST, 1])
        self.assertEqual(set_weight(holder.graph, 1, 0), [0])
        self.assertEqual(set_weight(holder.graph, 3, 7), [-1])
        self.assertEqual(holder.graph.weights, [1, 0, 1])


class Allow(unittest.TestCase):
    def test_masks_of_0_to_15(self):
        for mask in range(16):
            self.assertEqual(last(init(24), allow(23, mask)), [0])

    def test_masks_above_15(self):
        for mask in (16, 17, 31, 32, 256, GREATEST):
            self.assertEqual(last(init(2), allow(0, mask)), [-1])

    def test_no_node(self):
        for a in (2, 24, GREATEST):
            self.assertEqual(last(init(2), allow(a, 15)), [-1])
            self.assertEqual(last(init(2), allow(a, 16)), [-1])

    def test_the_mask_is_kept_for_that_node_alone(self):
        holder = Holder()
        start_graph(holder, 3)
        self.assertEqual(set_mask(holder.graph, 2, 0), [0])
        self.assertEqual(set_mask(holder.graph, 0, 10), [0])
        self.assertEqual(set_mask(holder.graph, 0, 16), [-1])
        self.assertEqual(set_mask(holder.graph, 3, 1), [-1])
        self.assertEqual(holder.graph.masks, [10, 15, 0])


class Bag(unittest.TestCase):
    def test_numbers_in_the_order_of_coming(self):
        self.assertEqual(ask(init(4), bag(0, 3), bag(1, 0, 1), bag(1, 2), bag(3, 1, 2, 3), bag(2, 0, 1, 2, 3)),
                         [[0], [0], [1], [2], [3], [4]])

    def test_the_first_has_p_0(self):
        for p in (1, 2, 40, GREATEST):
            self.assertEqual(ask(init(1), bag(p, 0), bag(0, 0)), [[0], [-1], [0]])

    def test_another_has_a_bags_number_and_1(self):
        for count in (1, 2, 7, 39):
            for p in (0, count + 1, count + 2, GREATEST):
                self.assertEqual(last(*chain(count), bag(p, 0)), [-1])
            for p in (1, count):
                self.assertEqual(last(*chain(count), bag(p, 0)), [count])

    def test_1_to_4_nodes(self):
        for size in range(1, 5):
            self.assertEqual(last(init(24), bag(0, *range(24 - size, 24))), [0])

    def test_another_number_of_nodes(self):
        for size in (0, 5, 6, 15, 16):
            self.assertEqual(last(init(24), bag(0, *range(size))), [-2])

    def test_a_node_that_is_not_there(self):
        for nodes in ((3,), (0, 3), (3, 0), (0, 1, 2, 3), (GREATEST,), (0, GREATEST)):
            self.assertEqual(last(init(3), bag(0, *nodes)), [-3])

    def test_a_node_twice(self):
        for nodes in ((0, 0), (0, 1, 0), (2, 1, 1), (0, 1, 2, 0), (1, 1, 1, 1)):
            self.assertEqual(last(init(3), bag(0, *nodes)), [-3])

    def test_the_40th_and_the_one_behind_it(self):
        self.assertEqual(ask(*chain(41), bag(1, 1), bag(40, 1), check())[40:],
                         [[39], [-4], [-4], [-4], [1, 1, 0]])

    def test_minus_1_before_the_others(self):
        for count in (1, 39, 40):
            for p in (0, count + 1, GREATEST):
                for nodes in ((0,), (), range(16), (0, 0), (GREATEST,), (0, 0, 0, 0, 0)):
                    self.assertEqual(last(*chain(count), bag(p, *nodes)), [-1])
        self.assertEqual(last(init(1), bag(1)), [-1])

    def test_minus_2_before_minus_3_and_minus_4(self):
        for count in (1, 39, 40):
            for nodes in ((), (0, 0, 0, 0, 0), [GREATEST] * 16):
                self.assertEqual(last(*chain(count), bag(1, *nodes)), [-2])

    def test_minus_3_before_minus_4(self):
        for nodes in ((0, 0), (2,), (0, GREATEST)):
            self.assertEqual(last(*chain(40), bag(40, *nodes)), [-3])

    def test_a_refused_bag_takes_no_number(self):
        self.assertEqual(ask(init(2), bag(1, 0), bag(0), bag(0, 2), bag(0, 0), bag(2, 0), bag(1),
                             bag(1, 1, 1), bag(1, 1), check()),
                         [[0], [-1], [-2], [-3], [0], [-1], [-2], [-3], [1], [0]])


class Unbag(unittest.TestCase):
    def test_answers_0_with_bags_and_without(self):
        self.assertEqual(ask(init(1), unbag(), bag(0, 0), unbag(), unbag()), [[0]] * 5)

    def test_numbers_begin_again(self):
        self.assertEqual(ask(init(2), bag(0, 0), bag(1, 1), unbag(), bag(1, 0), bag(0, 1), bag(1, 0)),
                         [[0], [0], [1], [0], [-1], [0], [1]])

    def test_after_40_bags_there_may_be_40_again(self):
        bags = [bag(p, 0) for p in range(41)]
        self.assertEqual(ask(init(1), *bags, unbag(), *bags)[42:],
                         [[0]] + [[k] for k in range(40)] + [[-4]])

    def test_graph_stays(self):
        self.assertEqual(ask(init(3), edge(1, 2), bag(0, 0, 1), unbag(), bag(0, 0, 1), bag(1, 2), check()),
                         [[0], [0], [0], [0], [0], [1], [2, 1, 2]])


if __name__ == "__main__":
    unittest.main()
