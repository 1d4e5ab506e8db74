"""Ways over links: by which ends switches are found, and what hangs on them (points 24 and 25)."""

from hangbridge.graphs import link_of, peer

ROOT = 1


def ends_at(links, switch):
    """Return the list of the ends of links at a switch, ascending."""
    return sorted([end for link in links for end in link if end[0] == switch])


def tree(links):
    """Return the dict from the switches that are found, but 1, to their parent ends."""
    parents = {}
    found = [ROOT]
    at = 0
    while at < len(found):
        for end in ends_at(links, found[at]):
            switch = peer(links, end)[0]
            if switch not in found:
                parents[switch] = end
                found.append(switch)
        at += 1
    return parents


def way(parents, to):
    """Return the way to a switch by parent ends: the ends from the switch 1 on that lead to it."""
    ends = []
    switch = to
    while switch != ROOT:
        ends.append(parents[switch])
        switch = parents[switch][0]
    return ends[::-1]


def below(parents, switch):
    """Return the list of the switches that hang on a switch, itself among them, ascending."""
    hanging = [switch]
    at = 0
    while at < len(hanging):
        above = hanging[at]
        hanging.extend([other for other in parents if parents[other][0] == above])
        at += 1
    return sorted(hanging)


def ways_by_tree(links, to):
    """Return the list of the way to a switch by the tree of links, empty if it is not found."""
    parents = tree(links)
    return [way(parents, to)] if to == ROOT or to in parents else []


def two_ways(links, to):
    """Return the list of the first way to a switch and, if there is one, the second one; empty if there is no way."""
    first = ways_by_tree(links, to)
    if not first:
        return []
    gone = [link_of(end, peer(links, end)) for end in first[0]]
    return first + ways_by_tree([link for link in links if link not in gone], to)
