"""Policies for tests, drawn by chance, and what they do as the document tells it, in plain sets."""

PLACES = {"switch": 0, "port": 1, "src": 2, "dst": 3, "kind": 4}


def holds(test, state):
    name, *rest = test
    if name == "is":
        return state[PLACES[rest[0]]] == rest[1]
    if name == "not":
        return not holds(rest[0], state)
    told = [holds(part, state) for part in rest[0]]
    return False not in told if name == "all" else True in told


def leads(policy, states):
    """Return the set of the states to which a policy leads from a set of states."""
    name, *rest = policy
    if name == "test":
        return {state for state in states if holds(rest[0], state)}
    if name == "set":
        at = PLACES[rest[0]]
        return {state[:at] + (rest[1],) + state[at + 1:] for state in states}
    if name == "sum":
        return {reached for part in rest[0] for reached in leads(part, states)}
    if name == "seq":
        for part in rest[0]:
            states = leads(part, states)
        return states
    while True:
        more = states | leads(rest[0], states)
        if more == states:
            return states
        states = more


class Drawing:
    """Draws tests and policies over some numbers of some fields."""

    def __init__(self, chance, numbers, settable):
        self.chance = chance
        self.numbers = numbers
        self.settable = settable

    def pick(self, fields):
        field = self.chance.choice(fields)
        return field, self.chance.choice(self.numbers[field])

    def test(self, depth):
        name = self.chance.choice(["is", "is", "not", "all", "any"]) if depth else "is"
        if name == "is":
            return ("is", *self.pick(sorted(self.numbers)))
        if name == "not":
            return ("not", self.test(depth - 1))
        return (name, [self.test(depth - 1) for _ in range(self.chance.randrange(4))])

    def policy(self, depth):
        name = self.chance.choice(["test", "set", "sum", "seq", "seq", "star"] if depth else ["test", "set"])
        if name == "test":
            return ("test", self.test(2))
        if name == "set":
            return ("set", *self.pick(self.settable))
        if name == "star":
            return ("star", self.policy(depth - 1))
        return (name, [self.policy(depth - 1) for _ in range(self.chance.randrange(4))])
