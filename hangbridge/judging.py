"""The judge of events, which tell what switches did with data (point 40)."""

from hangbridge.agents import OUTSIDE
from hangbridge.graphs import peer
from hangbridge.policies import does

MOST_DEPTH = 12


def is_known(graph, policies, event):
    """Return whether the switch and the version of an event are known."""
    switch, _, version = event[:3]
    return 1 <= switch <= graph[1] and version in policies


def is_right(policies, event):
    """Return whether nothing was sent, or what the policy does."""
    switch, port, version, _, header, sent = event
    return sent == [] or sent == does(policies[version], switch, port, header)


def agrees(versions, event):
    """Return whether an event keeps to the rule 3, by a dict from the numbers of earlier events to their versions."""
    _, port, version, number = event[:4]
    if number not in versions:
        return True
    return versions[number] == version and port != OUTSIDE


def depth_of(graph, depths, event):
    """Return the depth of an event, or None, by a dict from what was sent to an end to the least depth there."""
    switch, port, version, number, header, _ = event
    if port == OUTSIDE:
        return 1
    other = peer(graph[2], (switch, port))
    depth = None if other is None else depths.get((version, number, other, header))
    return None if depth is None else depth + 1


def broken_rule(graph, policies, versions, depth, event):
    """Return the first rule that an event of a depth, or None, breaks, or None."""
    if not is_known(graph, policies, event):
        return 1
    if not is_right(policies, event):
        return 2
    if not agrees(versions, event):
        return 3
    if depth is None:
        return 4
    return 5 if depth > MOST_DEPTH else None


def judge(graph, policies, events):
    """Return the pair of the first rule that the first wrong event breaks and its index, or None."""
    # What the earlier events have told; as none of them was wrong, each number has one version, and each a depth.
    versions = {}
    depths = {}
    for index, event in enumerate(events):
        depth = depth_of(graph, depths, event)
        rule = broken_rule(graph, policies, versions, depth, event)
        if rule is not None:
            return (rule, index)
        switch, _, version, number, _, sent = event
        versions[number] = version
        for port, header in sent:
            place = (version, number, (switch, port), header)
            depths[place] = min(depth, depths.get(place, depth))
    return None
