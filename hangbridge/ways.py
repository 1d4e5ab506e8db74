"""Ways around dead links, which are found on the way (points 71 to 73)."""

from hangbridge.graphs import link_of, peer, reached
from hangbridge.trees import ends_at


def living(graph, dead):
    """Return the list of the links of a graph that are not dead."""
    return [link for link in graph[2] if link not in dead]


def other_end(graph, end):
    """Return the other end of the link at an end, or None."""
    return peer(graph[2], end)


def distances(graph, dead, to):
    """Return the dict from the switches from which one is reached without dead links to the numbers of links."""
    links = living(graph, dead)
    found = {to: 0}
    row = [to]
    while row:
        fresh = []
        for switch in row:
            for end in ends_at(links, switch):
                nearby = peer(links, end)[0]
                if nearby not in found:
                    found[nearby] = found[switch] + 1
                    fresh.append(nearby)
        row = fresh
    return found


def next_port(graph, dead, switch, to):
    """Return the least port with which a shortest way begins, or None if there is none or it has come to its end."""
    links = living(graph, dead)
    far = distances(graph, dead, to)
    if switch == to or switch not in far:
        return None
    return min([port for _, port in ends_at(links, switch) if far[peer(links, (switch, port))[0]] < far[switch]])


def walk(graph, down, first, to):
    """Return the triple of "there" or "cut", the ends by which it goes, and the links that it carries at last."""
    ends = []
    carried = []
    switch = first
    port = next_port(graph, carried, switch, to)
    while port is not None:
        end = (switch, port)
        other = other_end(graph, end)
        if link_of(end, other) in down:
            carried.append(link_of(end, other))
        else:
            ends.append(end)
            switch = other[0]
        port = next_port(graph, carried, switch, to)
    return ("there" if switch == to else "cut", ends, sorted(carried))


def side_of(graph, dead, switch):
    """Return the list of the switches of a side, ascending."""
    return reached(living(graph, dead), switch)


def cut_right(graph, down, first, to, dead, side):
    """Return whether a list of switches is accepted as a side that shows that nothing arrives."""
    if first not in side or to in side:
        return False
    if not all([link in down for link in dead]):
        return False
    leading_out = [(one, other) for one, other in graph[2] if (one[0] in side) != (other[0] in side)]
    return all([link in dead for link in leading_out])
