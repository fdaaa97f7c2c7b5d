"""Ways to give nodes values, each way kept as one number: every node has two binary places of its own.

Node 0 has the highest places. So of two ways for the same nodes, the one with the lower value at the
first node where they differ is the lower number.
"""

PLACES_OF_A_NODE = 2
GREATEST_VALUE = 3


class Question:
    """What is asked of the values: which ones each node may have, and whether both ends of an edge may have one.

    choices[node] are the values it may have; free is the one value that both ends may have, None if there is none.
    """

    def __init__(self, graph, choices, free):
        self.graph = graph
        self.choices = choices
        self.free = free


def shift_of(graph, node):
    """How many binary places lie below those of the node."""
    return PLACES_OF_A_NODE * (graph.nodes - 1 - node)


def value_in(graph, way, node):
    """The value that the way gives the node; 0 for a node that it gives none."""
    return way >> shift_of(graph, node) & GREATEST_VALUE


def places_of(graph, nodes):
    """All places of these nodes, and no others."""
    places = 0
    for node in nodes:
        places = places | GREATEST_VALUE << shift_of(graph, node)
    return places


def ways_for(question, nodes):
    """All ways to give these nodes values, that no edge between two of them forbids."""
    ways = [0]
    for k, node in enumerate(nodes):
        linked = question.graph.linked[node]
        ways = with_node(question, ways, node, [other for other in nodes[:k] if linked[other]])
    return ways


def with_node(question, ways, node, neighbours):
    """The ways that come of these, with a value for one node more; it has edges to these neighbours."""
    shift = shift_of(question.graph, node)
    shifts = [shift_of(question.graph, other) for other in neighbours]
    longer = []
    for way in ways:
        taken = [way >> place & GREATEST_VALUE for place in shifts]
        for value in question.choices[node]:
            if value == question.free or value not in taken:
                longer.append(way | value << shift)
    return longer
