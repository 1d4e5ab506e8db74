"""Graphs, policies and steps for tests of nets."""

from hangbridge.errors import RoomError, StateError
from hangbridge.graphs import link_of, reached


def chain_graph(count):
    return ("graph", count, [((switch, 2), (switch + 1, 1)) for switch in range(1, count)])


def ring_graph(count):
    return ("graph", count, sorted([*chain_graph(count)[2], ((1, 6), (count, 6))]))


def random_graph(chance, count):
    """Return a graph whose links join all its switches."""
    while True:
        ends = [(switch, port) for switch in range(1, count + 1) for port in range(1, 7)]
        chance.shuffle(ends)
        pairs = [(ends.pop(), ends.pop()) for _ in range(chance.randrange(count - 1, count + 4))] if count > 1 else []
        links = sorted(link_of(one, other) for one, other in pairs if one[0] != other[0])
        if len(reached(links, 1)) == count:
            return ("graph", count, links)


def random_policy(chance, count):
    parts = []
    for _ in range(chance.randrange(6)):
        parts.append(("seq", [("test", ("is", "switch", chance.randrange(1, count + 1))),
                              ("test", ("is", "dst", chance.randrange(4))), ("set", "port", chance.randrange(7))]))
    return ("sum", parts)


def twins(many):
    """Return the graph of two switches with so many links between them."""
    return ("graph", 2, [((1, port), (2, port)) for port in range(1, many + 1)])


def ruled(count, many):
    """Return the policy of a row by which data go to its end, with so many rules at each switch."""
    parts = []
    for switch in range(1, count + 1):
        for number in range(many):
            here = [("is", "switch", switch), ("is", "dst", number % 15), ("is", "kind", number // 15)]
            parts.append(("seq", [("test", ("all", here)), ("set", "port", 2 if switch < count else 0),
                                  ("set", "src", (switch + number) % 16)]))
    return ("sum", parts)


def forwarding(graph):
    """Return the policy by which data go around a ring and out where their dst is."""
    count = graph[1]
    parts = []
    for switch in range(1, count + 1):
        here = ("test", ("is", "switch", switch))
        out = 6 if switch == count else 2
        parts.append(("seq", [here, ("test", ("is", "dst", switch)), ("set", "port", 0)]))
        parts.append(("seq", [here, ("test", ("not", ("is", "dst", switch))), ("set", "port", out)]))
    return ("sum", parts)


def offer(net, policy):
    """Offer a policy, which may be refused."""
    try:
        net.offer(policy)
    except (RoomError, StateError):
        pass


def disturb(net, chance):
    """Do a step of a kind that is drawn."""
    count = net.graph[1]
    kind = chance.random()
    lane = chance.choice(list(net.lanes.values()))
    if kind < 0.58:
        net.round()
    elif kind < 0.68:
        for _ in range(chance.randrange(20)):
            net.deliver(chance.choice(list(net.lanes)))
    elif kind < 0.78:
        chance.choice([lane.lose, lane.double, lane.hasten])(chance.randrange(3))
    elif kind < 0.82:
        if net.graph[2]:
            net.cut(chance.choice(net.graph[2]), chance.random() < 0.5)
    elif kind < 0.84:
        net.reboot(chance.randrange(1, count + 1))
    elif kind < 0.85:
        net.restart()
    elif kind < 0.89:
        offer(net, chance.choice([random_policy(chance, count), forwarding(net.graph), ruled(count, 20)]))
    elif kind < 0.96:
        net.inject(chance.randrange(1, count + 1), (chance.randrange(3), chance.randrange(4), 0))
    else:
        net.tick()


def left_alone(net):
    """Heal all links, and let rounds pass until the net has settled, and stays so; at most as many as point 37 tells."""
    for link in list(net.cuts):
        net.cut(link, False)
    good = 0
    for _ in range(1000 + 500 * net.graph[1]):
        net.round()
        good = good + 1 if net.settled() else 0
        if good > 250:
            return
    raise AssertionError("not settled")
