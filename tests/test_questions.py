"""The calls 7 to 12, one by one: plain cases worked out by hand, the edges, and what is refused."""

import unittest

from tests.helpers import (GREATEST, allow, ask, bag, check, colouring, colourings, edge, independent, init, last,
                           share, sets, unbag, weight, width)

NO_COLOURS = (0, 5, 6, 256, 4294967292, 4294967293, GREATEST)

PATH_OF_3 = [init(3), edge(0, 1), edge(1, 2), bag(0, 0, 1), bag(1, 1, 2)]
TRIANGLE = [init(3), edge(0, 1), edge(1, 2), edge(0, 2), bag(0, 2, 0, 1)]
FOUR_ALL_LINKED = [init(4)] + [edge(a, b) for a in range(4) for b in range(a)] + [bag(0, 3, 1, 0, 2)]
RING_OF_5 = [init(5)] + [edge(a, (a + 1) % 5) for a in range(5)] + [bag(a, 0, a + 1, a + 2) for a in range(3)]

# The calls that make an object whose bags are not right, and what check tells of them.
NOT_RIGHT = [
    ([init(1)], [1, 0, 0]),
    ([init(24)], [1, 0, 0]),
    ([init(3), bag(0, 0), unbag()], [1, 0, 0]),
    ([init(3), edge(0, 1), bag(0, 0, 1)], [1, 2, 0]),
    ([init(3), edge(0, 2), bag(0, 0, 1), bag(1, 1, 2)], [2, 0, 2]),
    ([init(3), bag(0, 0, 1), bag(1, 1, 2), bag(2, 0)], [3, 0, 0]),
    ([init(3), bag(0, 0, 1, 2), bag(1, 0), bag(2, 1)], [3, 1, 0]),
]


class Width(unittest.TestCase):
    def test_the_largest_bag_less_1(self):
        for size in range(1, 5):
            self.assertEqual(last(init(24), bag(0, *range(size)), width()), [size - 1])

    def test_whichever_bag_it_is(self):
        bags = [bag(0, 0), bag(1, 1), bag(1, 2)]
        self.assertEqual(last(init(5), *bags, width()), [0])
        self.assertEqual(last(init(5), bag(0, 0, 1, 2), bag(1, 3), bag(2, 4), width()), [2])
        self.assertEqual(last(init(5), bag(0, 0), bag(1, 1, 2, 3, 4), bag(2, 4), width()), [3])
        self.assertEqual(last(init(5), bag(0, 0), bag(1, 3), bag(2, 4, 1), width()), [1])

    def test_no_bags(self):
        self.assertEqual(ask(init(2), width(), bag(0, 0, 1), width(), unbag(), width()),
                         [[0], [-1], [0], [1], [0], [-1]])
        self.assertEqual(ask(init(2), bag(0, 0, 1), init(2), width())[3], [-1])

    def test_it_answers_of_bags_that_are_not_right(self):
        for calls, flaw in NOT_RIGHT[3:]:
            self.assertEqual(ask(*calls, check(), width())[len(calls):], [flaw, [2 if [3, 1, 0] == flaw else 1]])

    def test_40_bags(self):
        bags = [bag(p, 0) for p in range(39)]
        self.assertEqual(last(init(4), *bags, bag(39, 0, 1, 2, 3), width()), [3])
        self.assertEqual(last(init(4), *bags, bag(39, 1), width()), [0])

    def test_refused_bags_do_not_count(self):
        self.assertEqual(last(init(5), bag(0, 0, 1), bag(1, 0, 1, 2, 3, 4), bag(1, 0, 0, 1, 2), bag(7, 0, 1, 2),
                              width()), [1])


class Colourings(unittest.TestCase):
    def test_a_path(self):
        self.assertEqual([last(*PATH_OF_3, colourings(q)) for q in range(1, 5)], [[0], [2], [12], [36]])

    def test_a_triangle(self):
        self.assertEqual([last(*TRIANGLE, colourings(q)) for q in range(1, 5)], [[0], [0], [6], [24]])

    def test_four_all_linked(self):
        self.assertEqual([last(*FOUR_ALL_LINKED, colourings(q)) for q in range(1, 5)], [[0], [0], [0], [24]])

    def test_a_ring(self):
        self.assertEqual([last(*RING_OF_5, colourings(q)) for q in range(1, 5)], [[0], [0], [30], [240]])

    def test_one_node(self):
        for q in range(1, 5):
            self.assertEqual(last(init(1), bag(0, 0), colourings(q)), [q])

    def test_each_mask_of_one_node(self):
        for mask in range(16):
            for q in range(1, 5):
                count = sum(1 for c in range(q) if mask & 1 << c)
                self.assertEqual(last(init(1), allow(0, mask), bag(0, 0), colourings(q)), [count])

    def test_no_edges(self):
        bags = [bag(a, a) for a in range(24)]
        for q in range(1, 5):
            self.assertEqual(last(init(24), *bags, colourings(q)), [q ** 24])

    def test_an_edge_off_again(self):
        self.assertEqual(ask(init(2), bag(0, 0, 1), colourings(3), edge(1, 0), colourings(3), edge(0, 1, 0),
                             colourings(3))[2::2], [[9], [6], [9]])

    def test_colours_at_or_above_q_are_not_had(self):
        calls = [init(2), edge(0, 1), allow(0, 12), allow(1, 14), bag(0, 0, 1)]
        self.assertEqual([last(*calls, colourings(q)) for q in range(1, 5)], [[0], [0], [1], [4]])

    def test_a_node_that_is_allowed_none(self):
        for q in range(1, 5):
            self.assertEqual(last(*PATH_OF_3, allow(1, 0), colourings(q)), [0])
            self.assertEqual(last(*PATH_OF_3, allow(1, 0), allow(1, 15), colourings(q)), [[0, 2, 12, 36][q - 1]])

    def test_weights_do_not_matter(self):
        self.assertEqual(last(*PATH_OF_3, weight(0, 0), weight(1, GREATEST), colourings(3)), [12])


class Colouring(unittest.TestCase):
    def test_a_path(self):
        self.assertEqual([last(*PATH_OF_3, colouring(q)) for q in range(1, 5)],
                         [[0], [1, 0, 1, 0], [1, 0, 1, 0], [1, 0, 1, 0]])

    def test_a_ring(self):
        self.assertEqual([last(*RING_OF_5, colouring(q)) for q in range(1, 5)],
                         [[0], [0], [1, 0, 1, 0, 1, 2], [1, 0, 1, 0, 1, 2]])

    def test_four_all_linked(self):
        self.assertEqual([last(*FOUR_ALL_LINKED, colouring(q)) for q in range(1, 5)],
                         [[0], [0], [0], [1, 0, 1, 2, 3]])

    def test_one_node_has_its_lowest_colour(self):
        for mask in range(16):
            for q in range(1, 5):
                colours = [c for c in range(q) if mask & 1 << c]
                self.assertEqual(last(init(1), allow(0, mask), bag(0, 0), colouring(q)),
                                 [1, colours[0]] if colours else [0])

    def test_node_0_before_node_1_whatever_the_bags_tell_first(self):
        calls = [init(2), edge(0, 1), allow(0, 3), allow(1, 3)]
        for nodes in ((0, 1), (1, 0)):
            self.assertEqual(last(*calls, bag(0, *nodes), colouring(2)), [1, 0, 1])
            self.assertEqual(last(*calls, bag(0, nodes[0]), bag(1, *nodes), colouring(2)), [1, 0, 1])

    def test_a_lower_colour_that_leads_nowhere_is_not_taken(self):
        # Node 0 may not have 0: then 2 could only have 1, and 3, which may only have 1, would be left without.
        calls = [init(4), edge(0, 2), edge(2, 3), allow(2, 3), allow(3, 2)]
        self.assertEqual(last(*calls, bag(0, 2, 3), bag(1, 2, 0), bag(1, 1), colouring(4)), [1, 1, 0, 0, 1])

    def test_a_node_that_is_allowed_no_colour_below_q(self):
        for mask, firsts in ((0, [0, 0, 0, 0]), (8, [0, 0, 0, 1]), (12, [0, 0, 1, 1])):
            told = [last(*PATH_OF_3, allow(2, mask), colouring(q))[0] for q in range(1, 5)]
            self.assertEqual(told, firsts)

    def test_no_edges(self):
        bags = [bag(a, 23 - a) for a in range(24)]
        for q in range(1, 5):
            self.assertEqual(last(init(24), *bags, colouring(q)), [1] + [0] * 24)
        self.assertEqual(last(init(24), *[allow(a, 8) for a in range(24)], *bags, colouring(4)), [1] + [3] * 24)


class Share(unittest.TestCase):
    def test_a_path(self):
        self.assertEqual([last(*PATH_OF_3, share(q, 1)) for q in range(1, 5)],
                         [[0, 0], [0, 1, 1], [0, 4, 4, 4], [0, 9, 9, 9, 9]])

    def test_a_path_with_a_node_that_has_a_mask(self):
        calls = PATH_OF_3 + [allow(0, 1)]
        self.assertEqual([last(*calls, share(q, 0)) for q in range(1, 5)],
                         [[0, 0], [0, 1, 0], [0, 4, 0, 0], [0, 9, 0, 0, 0]])
        self.assertEqual([last(*calls, share(3, a)) for a in (1, 2)], [[0, 0, 2, 2], [0, 2, 1, 1]])

    def test_as_many_numbers_as_colours(self):
        for q in range(1, 5):
            self.assertEqual(last(init(1), bag(0, 0), share(q, 0)), [0] + [1] * q)

    def test_no_colouring_at_all(self):
        for q in (1, 2, 3):
            for a in range(4):
                self.assertEqual(last(*FOUR_ALL_LINKED, share(q, a)), [0] + [0] * q)
        self.assertEqual(last(*PATH_OF_3, allow(2, 0), share(4, 0)), [0, 0, 0, 0, 0])

    def test_a_colour_that_is_not_allowed_has_0(self):
        for mask in range(16):
            told = last(init(2), edge(0, 1), allow(1, mask), bag(0, 0), bag(1, 0, 1), share(4, 1))
            self.assertEqual(told, [0] + [3 if mask & 1 << c else 0 for c in range(4)])

    def test_no_edges(self):
        bags = [bag(a, a) for a in range(24)]
        for a in (0, 11, 23):
            self.assertEqual(last(init(24), *bags, share(4, a)), [0] + [4 ** 23] * 4)


class Sets(unittest.TestCase):
    def test_small_graphs(self):
        self.assertEqual(last(*PATH_OF_3, sets()), [5])
        self.assertEqual(last(*TRIANGLE, sets()), [4])
        self.assertEqual(last(*FOUR_ALL_LINKED, sets()), [5])
        self.assertEqual(last(*RING_OF_5, sets()), [11])

    def test_one_node_the_empty_set_counts(self):
        self.assertEqual(last(init(1), bag(0, 0), sets()), [2])

    def test_no_edges(self):
        self.assertEqual(last(init(24), *[bag(a, a) for a in range(24)], sets()), [2 ** 24])

    def test_masks_and_weights_do_not_matter(self):
        self.assertEqual(last(*PATH_OF_3, allow(0, 0), allow(1, 1), weight(2, 0), weight(0, GREATEST), sets()), [5])


class Independent(unittest.TestCase):
    def test_small_graphs(self):
        self.assertEqual(last(*PATH_OF_3, independent()), [2, 1, 0, 1])
        self.assertEqual(last(*TRIANGLE, independent()), [1, 1, 0, 0])
        self.assertEqual(last(*FOUR_ALL_LINKED, independent()), [1, 1, 0, 0, 0])
        self.assertEqual(last(*RING_OF_5, independent()), [2, 1, 0, 1, 0, 0])

    def test_the_heaviest(self):
        self.assertEqual(last(*PATH_OF_3, weight(1, 3), independent()), [3, 0, 1, 0])
        self.assertEqual(last(*TRIANGLE, weight(2, 2), independent()), [2, 0, 0, 1])

    def test_of_one_weight_the_one_with_the_earlier_node(self):
        self.assertEqual(last(*PATH_OF_3, weight(1, 2), independent()), [2, 1, 0, 1])
        calls = [init(4), edge(0, 1), edge(1, 2), edge(2, 3), bag(0, 3, 2), bag(1, 2, 1), bag(2, 1, 0)]
        self.assertEqual(last(*calls, independent()), [2, 1, 0, 1, 0])
        self.assertEqual(last(*calls, weight(2, 0), independent()), [2, 1, 0, 0, 1])

    def test_nodes_of_weight_0_are_had_where_they_may_be(self):
        self.assertEqual(last(*PATH_OF_3, *[weight(a, 0) for a in range(3)], independent()), [0, 1, 0, 1])
        self.assertEqual(last(*PATH_OF_3, weight(0, 0), weight(2, 0), independent()), [1, 0, 1, 0])
        self.assertEqual(last(*PATH_OF_3, weight(1, 0), weight(2, 0), independent()), [1, 1, 0, 1])
        self.assertEqual(last(init(1), weight(0, 0), bag(0, 0), independent()), [0, 1])

    def test_one_node(self):
        for w in (1, 2, 65536, GREATEST):
            self.assertEqual(last(init(1), weight(0, w), bag(0, 0), independent()), [w, 1])

    def test_weights_beyond_32_bits(self):
        bags = [bag(a, a) for a in range(24)]
        weights = [weight(a, GREATEST) for a in range(24)]
        self.assertEqual(last(init(24), *weights, *bags, independent()), [24 * GREATEST] + [1] * 24)

    def test_a_difference_of_1_in_great_weights(self):
        calls = [init(3), edge(0, 1), edge(1, 2), bag(0, 0, 1), bag(1, 1, 2), weight(1, GREATEST)]
        half = 2147483647
        for first, other, told in ((half, half, [GREATEST, 0, 1, 0]), (half, half + 1, [GREATEST, 1, 0, 1]),
                                   (half + 1, half + 1, [GREATEST + 1, 1, 0, 1])):
            self.assertEqual(last(*calls, weight(0, first), weight(2, other), independent()), told)

    def test_masks_do_not_matter(self):
        self.assertEqual(last(*PATH_OF_3, allow(0, 0), allow(2, 0), independent()), [2, 1, 0, 1])


class Refused(unittest.TestCase):
    def test_no_graph_yet_before_all_else(self):
        calls = [width(), sets(), independent()]
        for q in (0, 2, 5, GREATEST):
            calls += [colourings(q), colouring(q), share(q, 0), share(q, GREATEST)]
        self.assertEqual(ask(*calls), [[-5]] * len(calls))
        self.assertEqual(ask(init(25), *calls, init(0)), [[-1]] + [[-5]] * len(calls) + [[-1]])

    def test_bags_that_are_not_right(self):
        for calls, flaw in NOT_RIGHT:
            asked = [sets(), independent()]
            for q in range(1, 5):
                asked += [colourings(q), colouring(q), share(q, 0)]
            told = ask(*calls, check(), *asked, check())[len(calls):]
            self.assertEqual(told, [flaw] + [[-1]] * len(asked) + [flaw])

    def test_q_that_is_not_1_to_4(self):
        for q in NO_COLOURS:
            for call in (colourings(q), colouring(q), share(q, 2)):
                self.assertEqual(last(*PATH_OF_3, call), [-2])

    def test_q_before_bags_that_are_not_right(self):
        for calls, flaw in NOT_RIGHT:
            for q in NO_COLOURS:
                self.assertEqual(ask(*calls, colourings(q), colouring(q), share(q, 0))[len(calls):], [[-2]] * 3)

    def test_share_of_a_node_that_is_not_there(self):
        for a in (3, 24, GREATEST):
            for q in (1, 4, *NO_COLOURS):
                self.assertEqual(last(*PATH_OF_3, share(q, a)), [-3])
        self.assertEqual(last(init(24), *[bag(a, a) for a in range(24)], share(4, 24)), [-3])

    def test_share_of_no_node_before_q_and_bags(self):
        for calls, flaw in NOT_RIGHT:
            for q in (1, 4, *NO_COLOURS):
                for a in (calls[0][1], GREATEST):
                    self.assertEqual(last(*calls, share(q, a)), [-3])

    def test_they_answer_once_the_bags_are_right(self):
        asked = [colourings(2), colouring(2), share(2, 0), sets(), independent()]
        right = [[2], [1, 0, 1, 0], [0, 1, 1], [5], [2, 1, 0, 1]]
        before = [init(3), edge(0, 1), bag(0, 0, 1)]
        self.assertEqual(ask(*before, *asked, bag(1, 2), edge(2, 1), *asked, bag(2, 1, 2), check())[3:16],
                         [[-1]] * 5 + [[1], [0]] + [[-1]] * 5 + [[2]])
        mended = [unbag(), bag(0, 0, 1), bag(1, 1, 2)]
        self.assertEqual(ask(*before, edge(1, 2), *asked, *mended, check(), *asked)[9:], [[0], [0], [1], [0]] + right)
        self.assertEqual(ask(*PATH_OF_3, *asked, edge(0, 2), *asked, edge(0, 2, 0), *asked)[5:],
                         right + [[0]] + [[-1]] * 5 + [[0]] + right)


if __name__ == "__main__":
    unittest.main()
