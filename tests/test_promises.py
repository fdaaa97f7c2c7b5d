"""What holds for all calls: nothing changed by a refusal or a question, and the one list in and out."""

import contextlib
import io
import random
import unittest

from baggedgraph.graphs import answers
from tests.helpers import (GREATEST, allow, ask, bag, check, colouring, colourings, edge, independent, init, join,
                           questions, share, sets, unbag, weight, width)
from tests.slow import Plain, bag_calls, bags_by_elimination

# The bags are not right in the test that puts these: the last row would be answered otherwise.
REFUSED_WITH_2_NODES_AND_2_BAGS = [
    init(0), init(25), init(GREATEST), edge(0, 0), edge(1, 1, 0), edge(0, 2), edge(2, 1, 0), weight(2, 9),
    weight(GREATEST, 0), allow(2, 3), allow(0, 16), allow(GREATEST, GREATEST), bag(0, 0), bag(3, 0), bag(1),
    bag(1, 0, 1, 0, 1, 0), bag(1, *range(16)), bag(2, 2), bag(2, 1, 1), bag(GREATEST, 0),
    colourings(0), colourings(5), colouring(0), colouring(GREATEST), share(0, 0), share(2, 2), share(GREATEST, 3),
    colourings(2), colouring(2), share(2, 0), sets(), independent()]


class NothingChanged(unittest.TestCase):
    def test_by_each_refused_call(self):
        before = [init(2), edge(0, 1), bag(0, 0), bag(1, 1)]
        behind = [check(), width(), bag(2, 0, 1), check(), edge(0, 1, 0), check(), unbag(), bag(0, 0, 1), check(),
                  *questions(2), edge(1, 0), *questions(2)]
        plain = ask(*before, *behind)
        for refused in REFUSED_WITH_2_NODES_AND_2_BAGS:
            told = ask(*before, refused, *behind)
            self.assertLess(told[4][0], 0)
            self.assertEqual(len(told[4]), 1)
            self.assertEqual(told[:4] + told[5:], plain)

    def test_by_the_41st_bag(self):
        before = [init(2)] + [bag(p, 0) for p in range(40)]
        behind = [check(), unbag(), bag(0, 0, 1), check()]
        told = ask(*before, bag(40, 1), *behind)
        self.assertEqual(told[41], [-4])
        self.assertEqual(told[:41] + told[42:], ask(*before, *behind))

    def test_by_a_refused_call_where_weights_and_masks_tell(self):
        before = [init(2), weight(0, 5), weight(1, 6), allow(0, 6), allow(1, 5), bag(0, 0, 1)]
        refused = [init(0), weight(2, 9), allow(2, 1), allow(0, 16), allow(1, GREATEST), edge(0, 2), share(2, 2)]
        plain = ask(*before, *questions(2))
        self.assertEqual(plain[6:8], [[4], [11, 1, 1]])
        for call in refused:
            self.assertEqual(ask(*before, call, *questions(2))[7:], plain[6:])

    def test_by_check(self):
        calls = [init(3), edge(0, 1), bag(0, 0), bag(1, 1), unbag(), bag(0, 0, 1), bag(1, 2), init(2), bag(0, 1)]
        asked = [part for call in calls for part in (call, check(), check())]
        told = ask(*asked)
        self.assertEqual(told[0::3], ask(*calls))
        self.assertEqual(told[1::3], told[2::3])

    def test_by_refusals_before_there_is_a_graph(self):
        calls = [init(2), check(), bag(0, 0), bag(1, 1), check()]
        before = [edge(0, 1), weight(0, 7), allow(0, 0), bag(0, 0), unbag(), check(), init(0), width(), *questions(2)]
        calls += [unbag(), bag(0, 1, 0), *questions(2)]
        self.assertEqual(ask(*before, *calls)[len(before):], ask(*calls))


class TheOneList(unittest.TestCase):
    def test_how_it_is_laid_out(self):
        self.assertEqual(answers([0, 3, 1, 2, 0, 1, 4, 0, 2, 0, 1, 6, 4, 1, 1, 2, 6, 1, 0, 2, 0, 6]),
                         [1, 0, 1, 0, 1, 0, 3, 1, 2, 0, 1, 1, 3, 2, 0, 2, 1, 0, 1, 0])

    def test_a_refusal_is_one_number(self):
        self.assertEqual(answers([6, 0, 25, 0, 1, 4, 5, 16] + [0] * 16 + [4, 0, 0, 2, 1, 7, 3, 0, 16]),
                         [1, -5, 1, -1, 1, 0, 1, -1, 1, -2, 1, -1, 1, -1])

    def test_how_the_calls_that_ask_are_laid_out(self):
        before = [0, 3, 1, 0, 1, 1, 1, 1, 2, 1, 2, 1, 5, 3, 0, 4, 4, 0, 2, 0, 1, 4, 1, 2, 2, 1]
        asked = [7, 8, 4, 9, 3, 9, 2, 10, 3, 1, 10, 1, 0, 11, 12, 8, 5, 10, 5, 3, 6]
        self.assertEqual(answers(before + asked),
                         [1, 0] * 5 + [1, 0, 1, 1] + [1, 1, 1, 9, 4, 1, 2, 0, 1, 1, 0, 4, 0, 2, 2, 0, 2, 0, 0, 1, 5,
                                                      4, 5, 0, 1, 0, 1, -2, 1, -3, 1, 0])

    def test_each_call_is_as_long_as_the_document_says(self):
        calls = [[0, 5], [1, 5, 5, 5], [2, 5, 5], [3, 5, 5], [4, 5, 3, 5, 5, 5], [5], [6], [7], [8, 5],
                 [9, 5], [10, 5, 5], [11], [12]]
        for call in calls[1:]:
            self.assertEqual(answers(call + [0, 0] + call), [1, -5, 1, -1, 1, -5])

    def test_every_answer_is_a_plain_whole_number(self):
        told = answers(join([init(3), edge(0, 1), check(), bag(0, 0, 1), bag(1, 2), check(), init(0), width(),
                             *questions(3), share(5, 0), unbag(), *questions(3)]))
        self.assertIs(type(told), list)
        self.assertEqual({type(number) for number in told}, {int})

    def test_200_calls_with_the_longest_bags(self):
        calls = [init(24)] + [bag(0, *range(16))] * 199
        self.assertEqual(ask(*calls), [[0]] + [[-2]] * 199)

    def test_what_is_handed_in_is_not_changed(self):
        calls = join([init(4), edge(3, 0), bag(0, 3, 1, 0), bag(1, 2), check(), width(), *questions(4), unbag(),
                      bag(0, 0, 0), check(), *questions(4)])
        before = list(calls)
        told = answers(calls)
        self.assertEqual(calls, before)
        self.assertEqual(answers(Unchanging(calls)), told)

    def test_nothing_is_kept_from_one_time_to_the_next(self):
        calls = join([init(2), edge(0, 1), bag(0, 0), bag(1, 1), check(), bag(1, 0, 1), unbag(), bag(0, 0, 1),
                      width(), allow(0, 2), weight(1, 8), *questions(2)])
        first = answers(calls)
        self.assertEqual(answers(join([init(2), bag(0, 0, 1), *questions(2)])),
                         [1, 0, 1, 0] + answers(join([init(2), bag(0, 1, 0), *questions(2)]))[4:])
        self.assertEqual(answers([6, 5, 0, 0]), [1, -5, 1, -5, 1, -1])
        self.assertEqual(answers(calls), first)
        first.append(7)
        self.assertEqual(answers(calls) + [7], first)

    def test_nothing_is_printed(self):
        for stream in (contextlib.redirect_stdout, contextlib.redirect_stderr):
            shown = io.StringIO()
            with stream(shown):
                ask(init(2), check(), *questions(2), bag(0, 0, 1), check(), bag(0, 0), width(), *questions(2))
            self.assertEqual(shown.getvalue(), "")


class Unchanging(list):
    """A list that fails when it is changed, be it for a while."""

    def fail(self, *told, **named):
        raise AssertionError("what is handed in was changed")

    append = clear = extend = insert = pop = remove = reverse = sort = fail
    __setitem__ = __delitem__ = __iadd__ = __imul__ = fail


class Model:
    """All calls once more, straight from the document's words, over Python's sets; not answered if it takes long."""

    def __init__(self):
        self.nodes = None

    def init(self, nodes):
        if nodes not in range(1, 25):
            return [-1]
        self.nodes, self.edges, self.bags = set(range(nodes)), set(), []
        self.weights, self.masks = [1] * nodes, [15] * nodes
        return [0]

    def put(self, row, a, number, most):
        if a not in self.nodes or number > most:
            return [-1]
        row[a] = number
        return [0]

    def edge(self, a, b, on):
        if not {a, b} <= self.nodes or a == b:
            return [-1]
        self.edges.discard(frozenset((a, b)))
        if on:
            self.edges.add(frozenset((a, b)))
        return [0]

    def bag(self, p, nodes):
        count = len(self.bags)
        faults = [(-1, p not in (range(1, count + 1) if count else (0,))), (-2, len(nodes) not in range(1, 5)),
                  (-3, not set(nodes) <= self.nodes or len(set(nodes)) != len(nodes)), (-4, count == 40)]
        for refusal, holds in faults:
            if holds:
                return [refusal]
        self.bags.append((p - 1, set(nodes)))
        return [count]

    def check(self):
        flaws = [[1, v, 0] for v in self.nodes if not any(v in bag for _, bag in self.bags)]
        flaws += [[2, *sorted(e)] for e in self.edges if not any(e <= bag for _, bag in self.bags)]
        for v in self.nodes:
            tops = [p for p, bag in self.bags if v in bag and (p < 0 or v not in self.bags[p][1])]
            if len(tops) > 1:
                flaws.append([3, v, 0])
        return min(flaws, default=[0])

    def width(self):
        return [max([len(bag) for _, bag in self.bags], default=0) - 1]

    def question(self, call):
        faults = [(-3, call[0] == 10 and call[-1] not in self.nodes),
                  (-2, call[0] in (8, 9, 10) and call[1] not in range(1, 5)), (-1, self.check() != [0])]
        for refusal, holds in faults:
            if holds:
                return [refusal]
        if len(self.nodes) > 5:
            return None
        return Plain(len(self.nodes), self.edges, self.masks, self.weights).answers_to([call])[0]

    def answer(self, call):
        if call[0] == 0:
            return self.init(call[1])
        if self.nodes is None:
            return [-5]
        if call[0] == 1:
            return self.edge(*call[1:])
        if call[0] == 2:
            return self.put(self.weights, *call[1:], GREATEST)
        if call[0] == 3:
            return self.put(self.masks, *call[1:], 15)
        if call[0] == 4:
            return self.bag(call[1], call[3:])
        if call[0] == 5:
            self.bags = []
            return [0]
        return {6: self.check, 7: self.width}.get(call[0], lambda: self.question(call))()


def any_number(draw, near):
    """Mostly a number below near, now and then one just above it or a great one."""
    return draw.choice([draw.randrange(max(near, 1))] * 40 + [near, near + 1, GREATEST])


def any_call(draw, nodes, bags):
    kind = draw.choice([1, 1, 2, 3, 4, 4, 4, 4, 6, 6, 7, 8, 8])
    if kind == 1:
        return edge(any_number(draw, nodes), any_number(draw, nodes), draw.choice([0, 1, 1, 5]))
    if kind == 2:
        return weight(any_number(draw, nodes), draw.choice([0, 1, 2, 3, GREATEST, draw.randrange(GREATEST)]))
    if kind == 3:
        return allow(any_number(draw, nodes), any_number(draw, 16))
    if kind == 4:
        size = draw.choice([1, 2, 2, 3, 3, 4, 4, 4, 0, 5, 16] if draw.randrange(8) == 0 else [1, 2, 3, 4])
        picks = draw.sample(range(nodes), size) if size <= nodes else [any_number(draw, nodes)] * size
        return bag(0 if bags == 0 else 1 + any_number(draw, bags), *picks)
    if kind == 8:
        q, a = any_number(draw, 5), any_number(draw, nodes)
        return draw.choice([width(), colourings(q), colouring(q), share(q, a), share(q, a), sets(), independent()])
    return draw.choice([check()] * 12 + [unbag(), init(any_number(draw, 25)), init(draw.randrange(1, 6))])


def any_calls(draw, model):
    """Mostly one call; now and then right bags, told anew, and questions behind them."""
    if draw.randrange(12) == 0:
        graph = Plain(len(model.nodes), model.edges)
        row = bags_by_elimination(draw, graph)
        if row is not None:
            asked = [any_call(draw, graph.nodes, len(row)) for _ in range(4)]
            return [unbag(), *bag_calls(row), check(), *draw.sample(questions(graph.nodes), 3), *asked]
    return [any_call(draw, len(model.nodes), len(model.bags))]


class AgainstTheModel(unittest.TestCase):
    def test_many_rows_of_calls(self):
        draw = random.Random(20)
        seen = {}
        for _ in range(400):
            model = Model()
            calls = [init(draw.choice([1, 2, 2, 3, 3, 4, 4, 5, 6, 24]))]
            expected = [model.answer(calls[0])]
            while len(calls) < 130:
                for call in any_calls(draw, model):
                    calls.append(call)
                    expected.append(model.answer(call))
                    key = (call[0], min((expected[-1] or [0])[0], 6 if call[0] == 6 else 0))
                    seen[key] = seen.get(key, 0) + 1
            told = ask(*calls)
            self.assertEqual([None if plain is None else one for one, plain in zip(told, expected)], expected)
        for key in ((6, 0), (6, 1), (6, 2), (6, 3), (4, 0), (4, -1), (4, -2), (4, -3), (1, -1), (3, -1), (0, -1),
                    (7, 0), (7, -1), (8, -2), (8, -1), (8, 0), (9, -2), (9, -1), (9, 0), (10, -3), (10, -2), (10, -1),
                    (10, 0), (11, -1), (11, 0), (12, -1), (12, 0)):
            self.assertGreater(seen.get(key, 0), 20, key)


if __name__ == "__main__":
    unittest.main()
