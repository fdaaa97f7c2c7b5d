"""The calls on one object, read from one list and answered in one list."""

from baggedgraph.changes import add_bag, drop_bags, set_edge, set_mask, set_weight, start_graph
from baggedgraph.colourings import count_colourings, first_colouring, share_colourings
from baggedgraph.flaws import first_flaw, width
from baggedgraph.independence import count_sets, heaviest_set
from baggedgraph.state import Holder

INIT = 0
EDGE = 1
WEIGHT = 2
ALLOW = 3
BAG = 4
UNBAG = 5
CHECK = 6
WIDTH = 7
COLOURINGS = 8
COLOURING = 9
SHARE = 10
SETS = 11

# For each call, how many numbers always stand behind its own number; of bag, p and its row's length.
NUMBERS_BEHIND = (1, 3, 2, 2, 2, 0, 0, 0, 1, 1, 2, 0, 0)


def answers(calls):
    """The answers to the calls on a new object: for each how many numbers, then these."""
    holder = Holder()
    told = []
    at = 0
    while at < len(calls):
        end = end_of_call(calls, at)
        answer = answer_call(holder, calls[at], calls[at + 1:end])
        told.append(len(answer))
        told.extend(answer)
        at = end
    return told


def end_of_call(calls, at):
    """Where the call that begins at this place ends."""
    end = at + 1 + NUMBERS_BEHIND[calls[at]]
    if calls[at] == BAG:
        end = end + calls[end - 1]
    return end


def answer_call(holder, call, numbers):
    """What one call on the object answers; numbers is all that stands behind the call."""
    if call == INIT:
        return start_graph(holder, numbers[0])
    if holder.graph is None:
        return [-5]
    return answer_with_graph(holder.graph, call, numbers)


def answer_with_graph(graph, call, numbers):
    """What a call on an object with a graph answers."""
    if call == EDGE:
        return set_edge(graph, numbers[0], numbers[1], numbers[2])
    if call == WEIGHT:
        return set_weight(graph, numbers[0], numbers[1])
    if call == ALLOW:
        return set_mask(graph, numbers[0], numbers[1])
    if call == BAG:
        return add_bag(graph, numbers[0], numbers[2:])
    if call == UNBAG:
        return drop_bags(graph)
    return answer_question(graph, call, numbers)


def answer_question(graph, call, numbers):
    """What a call that only asks answers."""
    if call == CHECK:
        return first_flaw(graph)
    if call == WIDTH:
        return width(graph)
    if call == COLOURINGS:
        return count_colourings(graph, numbers[0])
    if call == COLOURING:
        return first_colouring(graph, numbers[0])
    if call == SHARE:
        return share_colourings(graph, numbers[0], numbers[1])
    if call == SETS:
        return count_sets(graph)
    return heaviest_set(graph)
