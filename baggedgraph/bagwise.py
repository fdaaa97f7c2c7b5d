"""Numbers over all ways to give all nodes values, worked out bag by bag, from the last to the first.

The bags are to be right. Then what lies below a bag meets the rest in the bag's nodes alone: it is
enough that each bag tells its parent one number for each way of the nodes that the two share.
"""

from baggedgraph.ways import places_of, ways_for


def work_out(question, worth, combine, choose):
    """One number for all ways of the graph's nodes; None if there is no way.

    worth(part) is the number of a way to give some nodes values; combine(x, y) makes of the numbers of
    two parts, with no node in both, the number of them together; choose(x, y) makes of two ways' numbers one.
    """
    graph = question.graph
    heard = [[] for bag in graph.bags]
    told = {}
    for k in range(len(graph.bags) - 1, -1, -1):
        shared = shared_places(graph, k)
        # Every node is own to just one bag, the one whose parent lacks it; so each counts once.
        own = places_of(graph, graph.bags[k]) - shared
        ways = possible_ways(question, graph.bags[k], heard[k])
        numbers = combined_numbers([worth(way & own) for way in ways], ways, heard[k], combine)
        told = gathered([way & shared for way in ways], numbers, choose)
        if graph.parents[k] is not None:
            heard[graph.parents[k]].append((shared, told))
    return told.get(0)


def shared_places(graph, k):
    """The places of the nodes that bag k shares with its parent."""
    parent = graph.parents[k]
    if parent is None:
        return 0
    return places_of(graph, [node for node in graph.bags[k] if node in graph.bags[parent]])


def possible_ways(question, nodes, heard):
    """The ways for a bag's nodes that go with some way of all that lies below the bag."""
    ways = ways_for(question, nodes)
    for shared, told in heard:
        ways = [way for way in ways if way & shared in told]
    return ways


def combined_numbers(numbers, ways, heard, combine):
    """For each way of a bag's nodes its number, combined with what the bags below tell of it."""
    for shared, told in heard:
        numbers = [combine(number, told[way & shared]) for number, way in zip(numbers, ways)]
    return numbers


def gathered(keys, numbers, choose):
    """For each key, one number chosen of all that stand beside it."""
    chosen = {}
    for key, number in zip(keys, numbers):
        chosen[key] = choose(chosen[key], number) if key in chosen else number
    return chosen


def count_ways(question, worth):
    """How many ways there are to give all nodes values, where each way of a part counts worth(part) times."""
    count = work_out(question, worth, product, total)
    return 0 if count is None else count


def one(part):
    """Each way of a part counts once."""
    return 1


def product(x, y):
    """Each way of one part goes with each way of the other."""
    return x * y


def total(x, y):
    """The sum of the two."""
    return x + y
