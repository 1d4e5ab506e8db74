"""Counters of data, and cuts of what they tell at different times (points 86 to 89)."""

from hangbridge.errors import StateError
from hangbridge.graphs import peer

MARK = ("mark",)


def count_up(numbers, kind):
    """Add 1 to the number of a kind."""
    numbers[kind] = numbers.get(kind, 0) + 1


def count_down(numbers, kind):
    """Take 1 from the number of a kind, which is left out at 0."""
    numbers[kind] -= 1
    if numbers[kind] == 0:
        del numbers[kind]


class Counting:
    """Switches of a graph, which hold data and count them, without data at first."""

    def __init__(self, graph):
        _, count, links = graph
        switches = range(1, count + 1)
        self.held = {switch: {} for switch in switches}
        self.came = {switch: {} for switch in switches}
        self.left = {switch: {} for switch in switches}
        self.lanes = {end: [] for end in sorted([end for link in links for end in link])}
        self._links = list(links)
        self._begun = False
        # What the reading has noted of switches and of lanes to them, and the lanes by which marks have come.
        self._noted = {}
        self._noted_lanes = {end: [] for end in self.lanes}
        self._marked = {}

    def enter(self, switch, kind):
        """Let a datum come in from outside."""
        if switch in self.held:
            count_up(self.came[switch], kind)
            count_up(self.held[switch], kind)

    def leave(self, switch, kind):
        """Let a datum leave. Raises StateError."""
        self._check_held(switch, kind)
        count_down(self.held[switch], kind)
        count_up(self.left[switch], kind)

    def send(self, end, kind):
        """Put a datum that the end's switch holds into the lane. Raises StateError."""
        if end not in self.lanes:
            raise StateError(end)
        self._check_held(end[0], kind)
        count_down(self.held[end[0]], kind)
        self.lanes[end].append(kind)

    def deliver(self, end):
        """Let what is the first in a lane come in at the other end. Raises StateError."""
        if not self.lanes.get(end):
            raise StateError(end)
        first = self.lanes[end].pop(0)
        switch = self.goal(end)
        if first == MARK:
            self._marked[end] = True
            self._read(switch)
            return
        count_up(self.held[switch], first)
        if self.is_read(switch) and end not in self._marked:
            self._noted_lanes[end].append(first)

    def start(self, switch):
        """Begin a reading at a switch. Raises StateError."""
        if self._begun:
            raise StateError(switch)
        if switch in self.held:
            self._begun = True
            self._read(switch)

    def goal(self, end):
        """Return the switch to which the lane of an end leads."""
        return peer(self._links, end)[0]

    def is_read(self, switch):
        """Return whether a switch is read."""
        return switch in self._noted

    def is_done(self):
        """Return whether the reading is done."""
        return len(self._noted) == len(self.held) and len(self._marked) == len(self.lanes)

    def cut(self):
        """Return the pair of what was noted of the switches and of the lanes. Raises StateError."""
        if not self.is_done():
            raise StateError("open")
        switches = {}
        for switch in sorted(self._noted):
            held, came, left = self._noted[switch]
            switches[switch] = (dict(held), dict(came), dict(left))
        return (switches, {end: list(self._noted_lanes[end]) for end in self._noted_lanes})

    def _check_held(self, switch, kind):
        if kind not in self.held.get(switch, {}):
            raise StateError((switch, kind))

    def _read(self, switch):
        if self.is_read(switch):
            return
        self._noted[switch] = (dict(self.held[switch]), dict(self.came[switch]), dict(self.left[switch]))
        for end in sorted(self.lanes):
            if end[0] == switch:
                self.lanes[end].append(MARK)


def perform(net, deed):
    """Do a deed. Raises StateError."""
    name, *rest = deed
    if name == "enter":
        net.enter(rest[0], rest[1])
    elif name == "leave":
        net.leave(rest[0], rest[1])
    elif name == "send":
        net.send(rest[0], rest[1])
    elif name == "deliver":
        net.deliver(rest[0])
    else:
        net.start(rest[0])


def balance(cut):
    """Return the dict from the kinds in a cut to the numbers that came in, left, are held and are in lanes."""
    switches, lanes = cut
    # For each place of a quadruple the dicts from kinds to numbers that are summed up there.
    came = [parts[1] for parts in switches.values()]
    left = [parts[2] for parts in switches.values()]
    held = [parts[0] for parts in switches.values()]
    going = [{kind: kinds.count(kind) for kind in kinds} for kinds in lanes.values()]
    places = (came, left, held, going)
    found = sorted({kind for place in places for numbers in place for kind in numbers})
    return {kind: tuple([sum([numbers.get(kind, 0) for numbers in place]) for place in places]) for kind in found}


def goal_of_data(net, deed):
    """Return the switch at which a deed with data is done, or None for another deed."""
    if deed[0] in ("enter", "leave"):
        return deed[1]
    if deed[0] == "send":
        return deed[1][0]
    if deed[0] == "deliver" and net.lanes[deed[1]][:1] != [MARK]:
        return net.goal(deed[1])
    return None


def parted(graph, deeds):
    """Return the pair of the lists of the deeds with data before and behind the cut, or None if it is not done."""
    net = Counting(graph)
    before = []
    behind = []
    for deed in deeds:
        switch = goal_of_data(net, deed)
        if switch is not None:
            rows = behind if net.is_read(switch) else before
            rows.append(deed)
        perform(net, deed)
    return (before, behind) if net.is_done() else None
