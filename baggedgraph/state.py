"""What an object holds: its graph, if it has one, and the bags shown for that graph."""


class Holder:
    """One object; it has no graph until an init is taken."""

    def __init__(self):
        self.graph = None


class Graph:
    """A graph as it is at first, with no edges and no bags.

    linked[a][b] tells whether there is an edge between a and b.
    bags[k] are the nodes of bag k; parents[k] is its parent's number, None if it has none.
    """

    def __init__(self, nodes):
        self.nodes = nodes
        self.linked = [[False for other in range(nodes)] for node in range(nodes)]
        self.weights = [1 for node in range(nodes)]
        self.masks = [15 for node in range(nodes)]
        self.bags = []
        self.parents = []
