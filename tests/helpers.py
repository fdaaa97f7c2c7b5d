"""The calls as the interface lays them out, and its answers taken apart again."""

from baggedgraph.graphs import answers

GREATEST = 4294967295


def init(nodes):
    return [0, nodes]


def edge(a, b, on=1):
    return [1, a, b, on]


def weight(a, w):
    return [2, a, w]


def allow(a, mask):
    return [3, a, mask]


def bag(p, *nodes):
    return [4, p, len(nodes), *nodes]


def unbag():
    return [5]


def check():
    return [6]


def width():
    return [7]


def colourings(q):
    return [8, q]


def colouring(q):
    return [9, q]


def share(q, a):
    return [10, q, a]


def sets():
    return [11]


def independent():
    return [12]


def questions(nodes, counts_of_colours=(1, 2, 3, 4)):
    """All calls that ask of a graph with right bags: one each, but colourings with each q, share of each node."""
    calls = [sets(), independent()]
    for q in counts_of_colours:
        calls += [colourings(q), colouring(q)] + [share(q, a) for a in range(nodes)]
    return calls


def join(calls):
    """The calls one behind another, as the one list that is handed in."""
    return [number for call in calls for number in call]


def take_apart(told):
    """The one list that is given back, as one list for each call."""
    parts = []
    at = 0
    while at < len(told):
        parts.append(told[at + 1:at + 1 + told[at]])
        at += 1 + told[at]
    assert at == len(told), "the counts do not fit the list"
    return parts


def ask(*calls):
    """What each of the calls answers, when they are put to one new object."""
    return take_apart(answers(join(calls)))


def last(*calls):
    """What the last of the calls answers."""
    return ask(*calls)[-1]
