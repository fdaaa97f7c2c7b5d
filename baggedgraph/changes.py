"""The calls that change an object: init, edge, weight, allow, bag and unbag.

Each gives back what is answered, as a list. A refusal is found before anything is changed.
"""

from baggedgraph.state import Graph

MOST_NODES = 24
MOST_BAGS = 40
MOST_NODES_IN_BAG = 4
GREATEST_MASK = 15


def start_graph(holder, nodes):
    """Call 0: a new graph in the place of whatever was there."""
    if nodes < 1 or nodes > MOST_NODES:
        return [-1]
    holder.graph = Graph(nodes)
    return [0]


def is_node(graph, a):
    """Whether a is the number of a node."""
    return a >= 0 and a < graph.nodes


def set_edge(graph, a, b, on):
    """Call 1: put an edge between a and b, or take it off."""
    if not is_node(graph, a) or not is_node(graph, b) or a == b:
        return [-1]
    graph.linked[a][b] = on != 0
    graph.linked[b][a] = on != 0
    return [0]


def set_weight(graph, a, weight):
    """Call 2: give a node its weight."""
    if not is_node(graph, a):
        return [-1]
    graph.weights[a] = weight
    return [0]


def set_mask(graph, a, mask):
    """Call 3: give a node its allowed colours."""
    if not is_node(graph, a) or mask > GREATEST_MASK:
        return [-1]
    graph.masks[a] = mask
    return [0]


def may_be_parent(graph, p):
    """Whether p is right for the next bag: 0 for the first, else a bag's number and 1."""
    if len(graph.bags) == 0:
        return p == 0
    return p >= 1 and p <= len(graph.bags)


def are_different_nodes(graph, nodes):
    """Whether all of these are nodes, and no two the same."""
    for node in nodes:
        if not is_node(graph, node):
            return False
    return len(set(nodes)) == len(nodes)


def add_bag(graph, p, nodes):
    """Call 4: a new bag below bag p - 1; its number is answered."""
    if not may_be_parent(graph, p):
        return [-1]
    if len(nodes) < 1 or len(nodes) > MOST_NODES_IN_BAG:
        return [-2]
    if not are_different_nodes(graph, nodes):
        return [-3]
    number = len(graph.bags)
    if number >= MOST_BAGS:
        return [-4]
    graph.bags.append(list(nodes))
    graph.parents.append(None if p == 0 else p - 1)
    return [number]


def drop_bags(graph):
    """Call 5: no bags any more."""
    graph.bags = []
    graph.parents = []
    return [0]
