"""How policies are told apart by a few states (point 65)."""

from hangbridge.policies import FIELD_BOUNDS, FIELD_PLACES, after, leaves


def named_numbers(policies, field):
    """Return the list of the numbers with which a field stands in policies, ascending."""
    return sorted({leaf[2] for policy in policies for leaf in leaves(policy) if leaf[1] == field})


def with_least_other(named, bounds):
    """Return the list of some numbers and the least other one within bounds, if there is one, ascending."""
    least, most = bounds
    others = [number for number in range(least, most + 1) if number not in named]
    return sorted([*named, *others[:1]])


def samples(policies):
    """Return the list of the five lists of the samples of the fields."""
    rows = [named_numbers(policies, field) for field in FIELD_PLACES]
    return [with_least_other(named, bounds) for named, bounds in zip(rows, FIELD_BOUNDS)]


def all_states(rows):
    """Return the list of the states with a number of each of five ascending lists in the fields, ascending."""
    switches, ports, sources, goals, kinds = rows
    return [(switch, port, src, dst, kind) for switch in switches for port in ports
            for src in sources for dst in goals for kind in kinds]


def difference(policy, other):
    """Return the least sample state from which two policies do not lead to the same states, or None."""
    for state in all_states(samples([policy, other])):
        if set(after(policy, state)) != set(after(other, state)):
            return state
    return None
