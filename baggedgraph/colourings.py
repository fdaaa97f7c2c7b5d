"""The calls 8 to 10: how many colourings there are, the first one, and how often a node has each colour."""

from baggedgraph.bagwise import count_ways, one, total, work_out
from baggedgraph.changes import is_node
from baggedgraph.flaws import are_right
from baggedgraph.ways import Question, value_in

MOST_COLOURS = 4
# 24 nodes with 4 colours each have 4 ** 24 ways: what is counted for one colour of a node is below 2 ** 48.
PLACES_OF_A_COUNT = 48
GREATEST_COUNT = 281474976710655


def count_colourings(graph, q):
    """Call 8: how many colourings with q colours there are."""
    refusal = refused(graph, q)
    if refusal != []:
        return refusal
    return [count_ways(colours_question(graph, q), one)]


def first_colouring(graph, q):
    """Call 9: the first colouring with q colours."""
    refusal = refused(graph, q)
    if refusal != []:
        return refusal
    # Of all colourings' numbers the lowest is the first colouring's, as node 0 has the highest places.
    first = work_out(colours_question(graph, q), part_itself, total, lower)
    if first is None:
        return [0]
    return [1] + [value_in(graph, first, node) for node in range(graph.nodes)]


def share_colourings(graph, q, a):
    """Call 10: for each colour below q, how many colourings with q colours give a that colour."""
    if not is_node(graph, a):
        return [-3]
    refusal = refused(graph, q)
    if refusal != []:
        return refusal

    def in_the_place_of_its_colour(part):
        # So the counts for the colours of a stand beside one another in one number, and never mix.
        return 1 << PLACES_OF_A_COUNT * value_in(graph, part, a)

    counts = count_ways(colours_question(graph, q), in_the_place_of_its_colour)
    return [0] + [counts >> PLACES_OF_A_COUNT * colour & GREATEST_COUNT for colour in range(q)]


def refused(graph, q):
    """The refusal of a call that asks for colourings with q colours; [] if there is an answer."""
    if q < 1 or q > MOST_COLOURS:
        return [-2]
    if not are_right(graph):
        return [-1]
    return []


def colours_question(graph, q):
    """Each node has one of its allowed colours below q, and the ends of an edge never have the same."""
    return Question(graph, [[colour for colour in range(q) if mask >> colour & 1] for mask in graph.masks], None)


def part_itself(part):
    """A part's number of its own: parts with no node in both are put together by adding."""
    return part


def lower(x, y):
    """The lower of the two."""
    return min(x, y)
