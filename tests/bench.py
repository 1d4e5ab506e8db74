"""A controller with switches that only keep sessions: they note their orders, and say what a test tells them to."""

from hangbridge.brains import Brain
from hangbridge.frames import read_frame, write_frame
from hangbridge.orders import read_order, write_order
from hangbridge.sessions import Guest


class Bench:
    def __init__(self, count):
        self.brain = Brain(count)
        self.guests = {switch: Guest(switch, 1) for switch in range(1, count + 1)}
        # What came, but for probes and hails: pairs of a switch and an order.
        self.orders = []
        # Triples of a switch, a port and a nonce.
        self.probes = []
        self.hails = []
        # Switches that neither hear nor say anything.
        self.mute = []
        # Switches that do not answer barriers, and the barriers that they have not answered.
        self.holding = []
        self.held = []
        # For switches, how many errors their next "done" has.
        self.errors = {}
        # Whether the links that are kept are seen again at each tick.
        self.lasting = True

    def tick(self, many=1):
        for _ in range(many):
            now = self.brain.now
            if self.lasting:
                for link in self.brain.seen.links():
                    self.brain.seen.see(*link, now)
            texts = self.brain.tick()
            assert self.brain.now == now + 1
            up = [segment for switch, guest in self.guests.items() if switch not in self.mute
                  for segment in guest.tick(now)]
            for text in texts:
                self.reach(read_frame(text))
            for segment in up:
                self.brain.hear(write_frame(segment))
        return self

    def reach(self, segment):
        """Let a segment come to its switch."""
        to = segment[1]
        if segment[5] == "hail":
            self.hails.append(to)
        if to in self.mute:
            return
        messages, answers = self.guests[to].take(segment, self.brain.now)
        for message in messages:
            self.obey(to, read_order(message))
        for answer in answers:
            self.brain.hear(write_frame(answer))

    def obey(self, switch, order):
        if order[0] == "probe":
            self.probes.append((switch, *order[1:]))
            return
        self.orders.append((switch, order))
        if order[0] == "barrier" and switch in self.holding:
            self.held.append((switch, order[1]))
        elif order[0] == "barrier":
            self.say(switch, ("done", order[1], self.errors.pop(switch, 0)))

    def say(self, switch, order):
        """Let a switch tell something in its session; it comes at one of the next ticks."""
        text = order if isinstance(order, str) else write_order(order)
        self.guests[switch].send(text)

    def hear(self, switch, order):
        """Let the controller hear something of a switch at once."""
        self.say(switch, order)
        for segment in self.guests[switch].tick(self.brain.now):
            self.brain.hear(write_frame(segment))

    def link(self, one, other):
        """Let the controller know a link from now on, without a word of a switch."""
        lost = self.brain.seen.see(one, other, self.brain.now)
        assert lost == []
        return self

    def until(self, right, most=1000):
        """Let ticks pass until something is right; return how many passed."""
        for many in range(most):
            if right():
                return many
            self.tick()
        raise AssertionError(f"not within {most} ticks")

    def until_present(self, *switches):
        self.until(lambda: self.brain.present() == list(switches))
        return self

    def until_phase(self, phase):
        self.until(lambda: self.brain.phase == phase)
        return self

    def taken(self):
        """Return the orders that came since this was asked, without the numbers of barriers."""
        orders = [(switch, order[:1] if order[0] == "barrier" else order) for switch, order in self.orders]
        self.orders = []
        return orders

    def state(self):
        """Return all that can be seen of the controller, but lines."""
        brain = self.brain
        return (brain.now, brain.epoch, brain.seen.links(), brain.stage.now, brain.stage.waits, dict(brain.parents),
                {switch: dict(ways) for switch, ways in brain.laid.items()}, brain.phase, brain.target,
                [(line.state, line.epoch, line.boot) for line in brain.lines.values()])


def chain(count, present=None):
    """Return a bench with switches one behind the other, port 2 to port 1, of which the first ones are in session.

    The link to the next one has just been seen.
    """
    bench = Bench(count)
    many = present or count
    for switch in range(1, many):
        bench.link((switch, 2), (switch + 1, 1))
    bench.until_present(*range(1, many + 1))
    bench.taken()
    if many < count:
        bench.link((many, 2), (many + 1, 1))
    return bench
