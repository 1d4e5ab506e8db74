"""Scripts, whose lines are commands to a net (points 42 to 44)."""

from hangbridge.errors import CommandError, MisreadError, PolicyError, RoomError, StateError
from hangbridge.frames import numbers_of
from hangbridge.graphs import check_graph, link_of, peer
from hangbridge.judging import judge
from hangbridge.nets import Net
from hangbridge.policytexts import read_policy
from hangbridge.trees import way

COUNT_PLACES = ((1, 8),)
LINK_PLACES = ((1, 8), (1, 6), (1, 8), (1, 6))


def with_commas(words):
    """Return the text of words, numbers among them, with commas between them, or `-` if there are none."""
    return ",".join([str(word) for word in words]) or "-"


# Each of these does a command, of a word and numbers that are within their places, and returns its output lines, or
# None if the net has nothing that the numbers tell, so that it is no command.


def deliver(net, _, numbers):
    """Deliver the first frame of a lane."""
    end = tuple(numbers)
    if end not in net.lanes:
        return None
    return ["delivered" if net.deliver(end) else "empty"]


def disturb(net, word, numbers):
    """Lose, double or hasten a frame of a lane."""
    switch, port, at = numbers
    if (switch, port) not in net.lanes:
        return None
    lane = net.lanes[switch, port]
    if word == "lose":
        there = lane.lose(at)
    elif word == "double":
        there = lane.double(at)
    else:
        there = lane.hasten(at)
    return ["done" if there else "empty"]


def cut(net, word, numbers):
    """Cut or heal a link."""
    end = tuple(numbers)
    other = peer(net.graph[2], end)
    if other is None:
        return None
    net.cut(link_of(end, other), word == "cut")
    return [word]


def pass_time(net, word, numbers):
    """Let rounds or ticks pass."""
    for _ in range(numbers[0]):
        if word == "rounds":
            net.round()
        else:
            net.tick()
    return [f"now {net.brain.now}"]


def inject(net, _, numbers):
    """Let a datum come in from outside."""
    switch, *header = numbers
    if switch not in net.agents:
        return None
    return [f"datum {net.inject(switch, tuple(header))}"]


def reboot(net, word, numbers):
    """Let a switch begin anew."""
    if numbers[0] not in net.agents:
        return None
    net.reboot(numbers[0])
    return [word]


def restart(net, word, _):
    """Let the controller begin anew."""
    net.restart()
    return [word]


def show_table(net, _, numbers):
    """Tell the table of a switch."""
    if numbers[0] not in net.agents:
        return None
    table = net.agents[numbers[0]].table
    ways = with_commas([f"{to}>{table.ways[to]}" for to in sorted(table.ways)])
    rules = with_commas([f"{version}:{len(table.rules[version])}" for version in sorted(table.rules)])
    return [f"table tag {table.tag} ways {ways} rules {rules}"]


def show_state(net, _word, _numbers):
    """Tell the state of the controller."""
    brain = net.brain
    return [f"now {brain.now} phase {brain.phase} version {brain.stage.now}", f"present {with_commas(brain.present())}"]


def show_ways(net, _word, _numbers):
    """Tell the ways to the switches in session."""
    brain = net.brain
    rows = [(switch, [port for _, port in way(brain.parents, switch)]) for switch in brain.present()]
    return [f"ways {len(rows)}", *[f"{switch} {with_commas(ports)}" for switch, ports in rows]]


def show_judgement(net, _word, _numbers):
    """Tell what the judge says of the events."""
    told = judge(net.graph, net.policies, net.events)
    if told is None:
        return ["judge right"]
    rule, index = told
    return [f"judge {rule} {index}"]


def show_events(net, _word, _numbers):
    """Tell how many events there are."""
    return [f"events {len(net.events)}"]


# For each command behind "start", but "policy", the bounds of its numbers, and what does it.
PLACES = {
    "deliver": ((0, 8), (0, 6)),
    "lose": ((0, 8), (0, 6), (0, 31)),
    "double": ((0, 8), (0, 6), (0, 31)),
    "hasten": ((0, 8), (0, 6), (0, 31)),
    "cut": ((1, 8), (1, 6)),
    "heal": ((1, 8), (1, 6)),
    "rounds": ((0, 5000),),
    "ticks": ((0, 5000),),
    "inject": ((1, 8), (0, 15), (0, 15), (0, 15)),
    "reboot": ((1, 8),),
    "restart": (),
    "table": ((1, 8),),
    "state": (),
    "ways": (),
    "judge": (),
    "events": (),
}
COMMANDS = {
    "deliver": deliver, "lose": disturb, "double": disturb, "hasten": disturb,
    "cut": cut, "heal": cut, "rounds": pass_time, "ticks": pass_time,
    "inject": inject, "reboot": reboot, "restart": restart,
    "table": show_table, "state": show_state, "ways": show_ways, "judge": show_judgement, "events": show_events,
}


def offer(net, text):
    """Offer the policy of a text; return the output lines, or None if there is no text, so that it is no command."""
    if not text:
        return None
    try:
        version = net.offer(read_policy(text))
    except (MisreadError, PolicyError):
        return ["refused policy"]
    except RoomError:
        return ["refused room"]
    except StateError:
        return ["refused waits"]
    return [f"version {version}"]


def command(net, line):
    """Do a command behind "start"; return its output lines, or None if it is none."""
    word, *rest = line.split(" ")
    if word == "policy":
        return offer(net, " ".join(rest))
    if word not in COMMANDS:
        return None
    numbers = numbers_of(rest, PLACES[word])
    action = COMMANDS[word]
    return None if numbers is None else action(net, word, numbers)


class Script:
    """How far a script has come: first a graph without a link is made, then it gets its links, then there is a net."""

    def __init__(self):
        self.graph = None
        self.net = None

    def take(self, line):
        """Do a command; return its output lines, or None if it is none."""
        if self.net is not None:
            return command(self.net, line)
        word, *rest = line.split(" ")
        if self.graph is None:
            return self._count(rest) if word == "switches" else None
        if word == "link":
            return self._link(rest)
        if line != "start":
            return None
        self.net = Net(self.graph)
        return [line]

    def _count(self, words):
        numbers = numbers_of(words, COUNT_PLACES)
        if numbers is None:
            return None
        self.graph = ("graph", numbers[0], [])
        return [f"switches {numbers[0]}"]

    def _link(self, words):
        numbers = numbers_of(words, LINK_PLACES)
        if numbers is None:
            return None
        switch, port, other, back = numbers
        _, count, links = self.graph
        graph = ("graph", count, sorted([*links, link_of((switch, port), (other, back))]))
        if not check_graph(graph):
            return None
        self.graph = graph
        return [f"links {len(graph[2])}"]


def run_script(text):
    """Return the list of the output lines of a script. Raises CommandError."""
    script = Script()
    output = []
    for number, line in enumerate(text.split("\n"), start=1):
        if line:
            told = script.take(line)
            if told is None:
                raise CommandError(number)
            output.extend(told)
    return output
