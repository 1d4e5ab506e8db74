"""Questions about what a policy does in a net (points 74 to 77)."""

from hangbridge.graphs import peer
from hangbridge.policies import does

OUTSIDE = 0


def steps(policy, graph, place):
    """Return the list of what becomes of what stands at a place, in the order of the ports and headers."""
    switch, port, header = place
    rows = []
    for out, changed in does(policy, switch, port, header):
        other = peer(graph[2], (switch, out))
        if out == OUTSIDE:
            rows.append(("out", switch, changed))
        elif other is None:
            rows.append(("lost", (switch, out), changed))
        else:
            rows.append(("in", (*other, changed)))
    return rows


def next_places(policy, graph, place):
    """Return the list of the places that come next, ascending, each once."""
    return sorted({row[1] for row in steps(policy, graph, place) if row[0] == "in"})


def followed(policy, graph, starts):
    """Return the dict from the reached places to the lists of the places that come next to them."""
    found = {}
    waiting = list(starts)
    while waiting:
        place = waiting.pop()
        if place not in found:
            found[place] = next_places(policy, graph, place)
            waiting.extend(found[place])
    return found


def reached(policy, graph, starts):
    """Return a dict whose keys are the reached places."""
    return {place: True for place in followed(policy, graph, starts)}


def way_to(policy, graph, starts, goal):
    """Return a shortest list of places, each next to the one before, from a start to a place, or None."""
    before = {}
    row = [(None, start) for start in starts]
    while row and goal not in before:
        fresh = [place for _, place in row if place not in before]
        for last, place in row:
            before.setdefault(place, last)
        row = [(place, following) for place in fresh for following in next_places(policy, graph, place)]
    if goal not in before:
        return None
    places = [goal]
    while before[places[-1]] is not None:
        places.append(before[places[-1]])
    return places[::-1]


def closed_right(policy, graph, starts, goal, places):
    """Return whether places are a paper that a place is not reached."""
    had = {place: True for place in places}
    if goal in had or not all([start in had for start in starts]):
        return False
    return all([following in had for place in had for following in next_places(policy, graph, place)])


def leading_to(following):
    """Return the dict from places to the lists of the places next to which they come."""
    found = {place: [] for place in following}
    for place in following:
        for other in following[place]:
            found[other].append(place)
    return found


def least_ranks(following):
    """Return the dict of the least ranks, from 0 on, of the places behind which nothing goes round for ever."""
    before = leading_to(following)
    missing = {place: len(following[place]) for place in following}
    found = {}
    row = [place for place in following if not following[place]]
    rank = 0
    while row:
        fresh = []
        for place in row:
            found[place] = rank
            for other in before[place]:
                missing[other] -= 1
                if missing[other] == 0:
                    fresh.append(other)
        row = fresh
        rank += 1
    return found


def ring(policy, graph, starts):
    """Return a list of reached places, each next to the one before, the last one equal to the first one, or None."""
    following = followed(policy, graph, starts)
    ranked = least_ranks(following)
    endless = sorted([place for place in following if place not in ranked])
    if not endless:
        return None
    # Behind a place without a rank there is another one, so this comes to one where it was.
    places = []
    place = endless[0]
    while place not in places:
        places.append(place)
        place = [other for other in following[place] if other not in ranked][0]
    return [*places[places.index(place):], place]


def ranks(policy, graph, starts):
    """Return the dict of ranks of the reached places, or None if there is a ring."""
    following = followed(policy, graph, starts)
    found = least_ranks(following)
    return found if len(found) == len(following) else None


def ranks_right(policy, graph, starts, told):
    """Return whether a dict from places to integers has ranks."""
    if not all([start in told for start in starts]):
        return False
    for place in told:
        for following in next_places(policy, graph, place):
            if following not in told or told[following] >= told[place]:
                return False
    return True


def losses(policy, graph, starts):
    """Return the pair of the reached places that drop and of the pairs of an end and a header that are lost."""
    drops = []
    lost = {}
    for place in sorted(reached(policy, graph, starts)):
        rows = steps(policy, graph, place)
        if not rows:
            drops.append(place)
        for row in rows:
            if row[0] == "lost":
                lost[row[1:]] = True
    return (drops, sorted(lost))


def meeting(policy, other, graph, starts, others):
    """Return the least place at which two policies meet, or None."""
    theirs = reached(other, graph, others)
    return min([place for place in reached(policy, graph, starts) if place in theirs], default=None)
