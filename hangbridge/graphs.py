"""Switches, their ends, and the links between them (point 2)."""

MOST_SWITCHES = 8
MOST_PORT = 6


def is_end(count, end):
    """Return whether a pair is an end of one of so many switches."""
    switch, port = end
    return 1 <= switch <= count and 1 <= port <= MOST_PORT


def link_of(one, other):
    """Return the pair of two ends, the lesser one first."""
    return (one, other) if one < other else (other, one)


def check_graph(graph):
    """Return whether a triple of a text, a number and a list of pairs of pairs is a graph, the text aside."""
    _, count, links = graph
    if not 1 <= count <= MOST_SWITCHES:
        return False
    ends = []
    for one, other in links:
        if not is_end(count, one) or not is_end(count, other):
            return False
        if one[0] >= other[0]:
            return False
        ends.extend([one, other])
    return links == sorted(links) and len(ends) == len(set(ends))


def peer(links, end):
    """Return the other end of the link of an end, or None."""
    for one, other in links:
        if one == end:
            return other
        if other == end:
            return one
    return None


def reached(links, switch):
    """Return the list of the switches that links join to a switch, ascending."""
    found = {switch: True}
    growing = True
    while growing:
        growing = False
        for one, other in links:
            if (one[0] in found) != (other[0] in found):
                found[one[0]] = True
                found[other[0]] = True
                growing = True
    return sorted(found)
