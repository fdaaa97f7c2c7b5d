"""The calls 11 and 12: how many independent sets there are, and the heaviest one."""

from baggedgraph.bagwise import count_ways, one, total, work_out
from baggedgraph.flaws import are_right
from baggedgraph.ways import PLACES_OF_A_NODE, Question, value_in

OUT = 0
IN = 1


def count_sets(graph):
    """Call 11: how many independent sets there are."""
    if not are_right(graph):
        return [-1]
    return [count_ways(sets_question(graph), one)]


def heaviest_set(graph):
    """Call 12: the greatest weight of an independent set, and the first of the sets of that weight."""
    if not are_right(graph):
        return [-1]
    places_below = PLACES_OF_A_NODE * graph.nodes

    def weight_then_nodes(part):
        # Weight counts first; of one weight, the number of the set that has the earlier nodes is higher.
        weights = [graph.weights[node] for node in range(graph.nodes) if value_in(graph, part, node) == IN]
        return sum(weights) << places_below | part

    best = work_out(sets_question(graph), weight_then_nodes, total, higher)
    return [best >> places_below] + [value_in(graph, best, node) for node in range(graph.nodes)]


def sets_question(graph):
    """Each node is out or in, and the ends of an edge are never both in."""
    return Question(graph, [[OUT, IN] for node in range(graph.nodes)], OUT)


def higher(x, y):
    """The higher of the two."""
    return max(x, y)
