"""The calls 6 and 7, about the bags themselves: the first thing that is wrong with them, and their width.

Each kind of flaw has a function that gives back its first flaw, as it is told, or [].
"""


def first_flaw(graph):
    """What check answers: [0] if the bags are right, else the first flaw."""
    flaw = missing_node(graph)
    if flaw == []:
        flaw = split_edge(graph)
    if flaw == []:
        flaw = scattered_node(graph)
    if flaw == []:
        return [0]
    return flaw


def are_right(graph):
    """Whether the bags are right."""
    return first_flaw(graph) == [0]


def width(graph):
    """Call 7: the size of the largest bag, less 1; the bags need not be right."""
    if graph.bags == []:
        return [-1]
    return [max([len(bag) for bag in graph.bags]) - 1]


def missing_node(graph):
    """Kind 1: the least node that is in no bag."""
    for node in range(graph.nodes):
        if not share_a_bag(graph, node, node):
            return [1, node, 0]
    return []


def split_edge(graph):
    """Kind 2: the first edge whose ends are in no bag together."""
    for lower in range(graph.nodes):
        for other in range(lower + 1, graph.nodes):
            if graph.linked[lower][other] and not share_a_bag(graph, lower, other):
                return [2, lower, other]
    return []


def scattered_node(graph):
    """Kind 3: the least node whose bags do not hang together."""
    for node in range(graph.nodes):
        if count_tops(graph, node) != 1:
            return [3, node, 0]
    return []


def share_a_bag(graph, a, b):
    """Whether some bag has both a and b."""
    for bag in graph.bags:
        if a in bag and b in bag:
            return True
    return False


def count_tops(graph, node):
    """How many of the node's bags have no parent that has the node."""
    tops = 0
    for k, bag in enumerate(graph.bags):
        if node in bag and not parent_has(graph, k, node):
            tops = tops + 1
    return tops


def parent_has(graph, k, node):
    """Whether bag k has a parent and that parent has the node."""
    parent = graph.parents[k]
    if parent is None:
        return False
    return node in graph.bags[parent]
