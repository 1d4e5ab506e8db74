"""Policies: what they are, and where they lead from a state (points 60 to 64)."""

from hangbridge.errors import PolicyError

# The place of each field in a state, and the least and the greatest number that stands there.
FIELD_PLACES = {"switch": 0, "port": 1, "src": 2, "dst": 3, "kind": 4}
FIELD_BOUNDS = ((1, 8), (0, 6), (0, 15), (0, 15), (0, 15))
POLICY_NAMES = ("test", "set", "sum", "seq", "star")
TEST_NAMES = ("is", "not", "all", "any")
LEAF_NAMES = ("is", "set")


def parts_of(part):
    """Return the list of the parts within a part that is no "is" and no "set"."""
    return part[1] if isinstance(part[1], list) else [part[1]]


def leaves(part):
    """Return the list of the parts "is" and "set" of a policy or a test, in order."""
    if part[0] in LEAF_NAMES:
        return [part]
    return [leaf for inner in parts_of(part) for leaf in leaves(inner)]


def copied(part):
    """Return a policy or a test that is equal and shares no list with this one."""
    if part[0] in LEAF_NAMES:
        return part
    inner = [copied(one) for one in parts_of(part)]
    return (part[0], inner if isinstance(part[1], list) else inner[0])


def may_have(field, number):
    """Return whether a text is a field that can have a number."""
    if field not in FIELD_PLACES:
        return False
    least, most = FIELD_BOUNDS[FIELD_PLACES[field]]
    return least <= number <= most


def check_part(part, names, way):
    """Raise PolicyError for the first wrong part of a part, which must have one of some names, with the way to it."""
    name = part[0]
    if name not in names:
        raise PolicyError(way)
    if name in LEAF_NAMES:
        if not may_have(part[1], part[2]):
            raise PolicyError(way)
        return
    within = TEST_NAMES if name == "test" else names
    for at, inner in enumerate(parts_of(part)):
        check_part(inner, within, (*way, at))


def check(policy):
    """Return None for a policy. Raises PolicyError."""
    check_part(policy, POLICY_NAMES, ())


def test_holds(test, state):
    """Return whether a test holds for a state."""
    name = test[0]
    if name == "is":
        return state[FIELD_PLACES[test[1]]] == test[2]
    if name == "not":
        return not test_holds(test[1], state)
    if name == "all":
        return all([test_holds(part, state) for part in test[1]])
    return any([test_holds(part, state) for part in test[1]])


def with_number(state, field, number):
    """Return a state with a number in a field."""
    place = FIELD_PLACES[field]
    return (*state[:place], number, *state[place + 1:])


def after_any(policies, states):
    """Return the list of the states to which any of some policies leads from any of some states, each once."""
    found = {}
    for state in states:
        for policy in policies:
            for reached in after(policy, state):
                found[reached] = True
    return list(found)


def after_star(policy, state):
    """Return the list of the states to which a policy leads when it is done any number of times, each once."""
    known = {state: True}
    states = [state]
    while states:
        states = [reached for reached in after_any([policy], states) if reached not in known]
        for reached in states:
            known[reached] = True
    return list(known)


def after(policy, state):
    """Return the list of the states to which a policy leads from a state, each once."""
    name = policy[0]
    if name == "test":
        return [state] if test_holds(policy[1], state) else []
    if name == "set":
        return [with_number(state, policy[1], policy[2])]
    if name == "sum":
        return after_any(policy[1], [state])
    if name == "star":
        return after_star(policy[1], state)
    states = [state]
    for part in policy[1]:
        states = after_any([part], states)
    return states


def does(policy, switch, port, header):
    """Return what a local policy does at a port of a switch with a header: pairs of port and header, ascending."""
    return sorted([(state[1], state[2:]) for state in after(policy, (switch, port, *header))])


def sets_field(policy, field):
    """Return whether a "set" of a field stands in a policy."""
    return ("set", field) in [leaf[:2] for leaf in leaves(policy)]


def from_to(end, other):
    """Return the policy that leads from one end to another one."""
    return ("seq", [
        ("test", ("all", [("is", "switch", end[0]), ("is", "port", end[1])])),
        ("set", "switch", other[0]), ("set", "port", other[1]),
    ])


def link_policy(graph):
    """Return the link policy of a graph, which leads from each end of a link to the other one."""
    return ("sum", [from_to(end, other) for link in graph[2] for end, other in (link, link[::-1])])
