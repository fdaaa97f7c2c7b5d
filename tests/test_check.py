"""The call 6: right bags, each flaw, and of several flaws the first."""

import unittest

from tests.helpers import bag, ask, check, edge, init, last, unbag


class RightBags(unittest.TestCase):
    def test_one_node(self):
        self.assertEqual(last(init(1), bag(0, 0), check()), [0])

    def test_all_in_one_bag(self):
        edges = [edge(a, b) for a in range(4) for b in range(a)]
        self.assertEqual(last(init(4), *edges, bag(0, 2, 0, 3, 1), check()), [0])

    def test_a_path_of_24_nodes(self):
        edges = [edge(a + 1, a) for a in range(23)]
        bags = [bag(a, a, a + 1) for a in range(23)]
        self.assertEqual(last(init(24), *edges, *bags, check()), [0])

    def test_a_ring(self):
        edges = [edge(a, (a + 1) % 6) for a in range(6)]
        bags = [bag(a, 0, a + 1, a + 2) for a in range(4)]
        self.assertEqual(last(init(6), *edges, *bags, check()), [0])

    def test_a_star_of_bags_below_the_first(self):
        bags = [bag(0, 0)] + [bag(1, 0, leaf) for leaf in range(1, 10)]
        edges = [edge(0, leaf) for leaf in range(1, 10)]
        self.assertEqual(last(init(10), *edges, *bags, check()), [0])

    def test_no_edges_bags_with_nothing_in_common(self):
        self.assertEqual(last(init(3), bag(0, 1), bag(1, 0), bag(1, 2), check()), [0])

    def test_the_same_bag_40_times(self):
        self.assertEqual(last(init(2), edge(0, 1), *[bag(p, 0, 1) for p in range(40)], check()), [0])

    def test_the_40th_bag_counts(self):
        bags = [bag(p, 0) for p in range(39)] + [bag(39, 0, 1)]
        self.assertEqual(last(init(2), edge(0, 1), *bags, check()), [0])


class NodeInNoBag(unittest.TestCase):
    def test_no_bags_at_all(self):
        self.assertEqual(last(init(1), check()), [1, 0, 0])
        self.assertEqual(last(init(24), edge(3, 4), check()), [1, 0, 0])

    def test_bags_taken_off(self):
        self.assertEqual(ask(init(1), bag(0, 0), check(), unbag(), check(), bag(0, 0), check())[2:],
                         [[0], [0], [1, 0, 0], [0], [0]])

    def test_the_least_one(self):
        self.assertEqual(last(init(5), bag(0, 0, 2), check()), [1, 1, 0])
        self.assertEqual(last(init(5), bag(0, 4, 2, 1, 0), check()), [1, 3, 0])

    def test_the_last_node(self):
        self.assertEqual(last(init(4), bag(0, 0, 1, 2), check()), [1, 3, 0])


class EdgeInNoBag(unittest.TestCase):
    def test_lower_end_first_whatever_order(self):
        bags = [init(3), bag(0, 0, 1), bag(1, 2)]
        self.assertEqual(last(*bags, edge(0, 2), check()), [2, 0, 2])
        self.assertEqual(last(*bags, edge(2, 0), check()), [2, 0, 2])

    def test_first_by_lower_end(self):
        bags = [bag(a, a) for a in range(6)]
        self.assertEqual(last(init(6), edge(2, 3), edge(5, 1), edge(4, 3), *bags, check()), [2, 1, 5])

    def test_then_by_other_end(self):
        bags = [bag(a, a) for a in range(6)]
        self.assertEqual(last(init(6), edge(1, 5), edge(4, 1), edge(3, 4), *bags, check()), [2, 1, 4])
        self.assertEqual(last(init(6), edge(0, 5), edge(1, 2), *bags, check()), [2, 0, 5])

    def test_an_edge_within_a_bag_is_passed_over(self):
        bags = [bag(0, 0, 1), bag(1, 2), bag(2, 3)]
        self.assertEqual(last(init(4), edge(0, 1), edge(3, 2), *bags, check()), [2, 2, 3])

    def test_ends_in_a_bag_and_its_parent_are_not_together(self):
        self.assertEqual(last(init(3), edge(0, 2), bag(0, 0, 1), bag(1, 1, 2), check()), [2, 0, 2])

    def test_an_edge_taken_off_and_put_on_again(self):
        self.assertEqual(ask(init(2), bag(0, 0), bag(1, 1), check(), edge(1, 0), check(), edge(0, 1, 0), check(),
                             edge(0, 1), check(), bag(2, 1, 0), check())[3:],
                         [[0], [0], [2, 0, 1], [0], [0], [0], [2, 0, 1], [2], [3, 0, 0]])

    def test_the_greatest_edge(self):
        self.assertEqual(last(init(24), edge(23, 22), *[bag(a, a) for a in range(24)], check()), [2, 22, 23])


class NodeScattered(unittest.TestCase):
    def test_below_a_bag_without_it(self):
        self.assertEqual(last(init(2), bag(0, 1), bag(1, 0), bag(2, 1), check()), [3, 1, 0])

    def test_in_two_bags_side_by_side(self):
        self.assertEqual(last(init(2), bag(0, 0), bag(1, 1), bag(1, 1), check()), [3, 1, 0])

    def test_in_two_bags_side_by_side_with_their_parent_it_hangs_together(self):
        self.assertEqual(last(init(2), bag(0, 0, 1), bag(1, 1), bag(1, 1), check()), [0])

    def test_the_least_one(self):
        self.assertEqual(last(init(4), bag(0, 0, 3, 2), bag(1, 1), bag(2, 3), bag(2, 2), check()), [3, 2, 0])

    def test_the_parent_counts_not_the_bag_before(self):
        self.assertEqual(last(init(3), bag(0, 0), bag(1, 1), bag(1, 2), bag(3, 1), check()), [3, 1, 0])
        self.assertEqual(last(init(3), bag(0, 0), bag(1, 1), bag(1, 2), bag(2, 1), check()), [0])

    def test_the_first_bag_counts_as_one_without_parent(self):
        self.assertEqual(last(init(2), bag(0, 0), bag(1, 1), bag(2, 0), bag(3, 0), check()), [3, 0, 0])

    def test_three_tops(self):
        self.assertEqual(last(init(2), bag(0, 0), bag(1, 1), bag(1, 1), bag(1, 1), check()), [3, 1, 0])


class SeveralFlaws(unittest.TestCase):
    def test_a_node_in_no_bag_before_an_edge_and_a_scattered_node(self):
        bags = [bag(0, 0), bag(1, 1), bag(2, 0)]
        self.assertEqual(last(init(5), edge(0, 1), *bags, bag(1, 3), check()), [1, 2, 0])

    def test_an_edge_to_the_node_in_no_bag(self):
        self.assertEqual(last(init(3), edge(0, 2), bag(0, 0, 1), check()), [1, 2, 0])

    def test_an_edge_before_a_scattered_node(self):
        bags = [bag(0, 0), bag(1, 1), bag(2, 0), bag(1, 2, 3)]
        self.assertEqual(last(init(4), edge(3, 1), *bags, check()), [2, 1, 3])

    def test_told_one_behind_another_as_they_are_mended(self):
        calls = [init(3), edge(1, 2), bag(0, 0), bag(1, 1), bag(2, 0), check(), bag(1, 2), check(),
                 edge(1, 2, 0), check(), unbag(), bag(0, 0), bag(1, 1), bag(2, 2), check()]
        self.assertEqual([ask(*calls)[k] for k in (5, 7, 9, 14)], [[1, 2, 0], [2, 1, 2], [3, 0, 0], [0]])


if __name__ == "__main__":
    unittest.main()
