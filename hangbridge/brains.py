"""The controller (points 27 to 33): what it has seen, whom it reaches, and what it does next."""

from hangbridge.errors import RoomError
from hangbridge.frames import read_frame, write_frame
from hangbridge.graphs import MOST_PORT, is_end, peer
from hangbridge.orders import read_order, write_order
from hangbridge.seen import Seen
from hangbridge.sessions import CONTROLLER, Line
from hangbridge.stages import Stage
from hangbridge.trees import ROOT, below, way

LINK_TICKS = 40
ADOPTION_TICKS = 400
# The phases of an adoption in which the line of the switch is used.
LINE_PHASES = ("hail", "check", "mend", "fill")


def orders_to_adopt(phase, version, rules, port):
    """Return the list of the orders of a phase of an adoption, with the way to the controller by a port."""
    adds = [("add", version, match, outs) for match, outs in rules]
    up = ("way", CONTROLLER, port)
    if phase == "check":
        return [("keep", version, len(rules)), up]
    if phase == "mend":
        return [("strip",), *adds, ("keep", version, len(rules)), up]
    return [("wipe",), up, *adds, ("tag", version, len(rules))]


def orders_to_bring(phase, stage, switch):
    """Return the list of the orders to a switch in a phase in which the version that waits is brought in."""
    rules = stage.rules(stage.waits, switch)
    if phase == "add":
        return [("add", stage.waits, match, outs) for match, outs in rules]
    if phase == "tag":
        return [("tag", stage.waits, len(rules))]
    return [("drop", stage.now)] if stage.now else []


class Brain:
    """A controller of some switches."""

    def __init__(self, count):
        self.now = 0
        self.epoch = 0
        self.seen = Seen()
        self.stage = Stage(count)
        self.lines = {switch: Line(switch) for switch in range(1, count + 1)}
        self.parents = {}
        self.laid = {}
        self.phase = "rest"
        self.target = None
        self._count = count
        self._failures = {}
        self._barrier = 0
        self._awaited = {}
        self._wrong = False
        # The end by which a switch is adopted, the port at its other end, and the tick at which that began.
        self._end = None
        self._port = 0
        self._began = 0

    def present(self):
        """Return the list of the switches in session, ascending."""
        return sorted(self.laid)

    def restarted(self):
        """Return a controller that has fallen and begun anew; it shares the stage."""
        brain = Brain(self._count)
        brain.stage = self.stage
        brain.now = self.now
        brain.epoch = self.epoch
        brain._barrier = self._barrier
        return brain

    def tick(self):
        """Let a tick pass; return the list of the frames, as texts, that go to the switch 1."""
        self._lose(self.seen.old(self.now, LINK_TICKS * self._count))
        segments = []
        for switch in sorted(self.lines):
            segments.extend(self._say(switch))
        self._send_probe()
        if self._adopts() and self.now - self._began >= ADOPTION_TICKS:
            self._fail()
        self._go_on()
        self.now += 1
        return [write_frame(segment) for segment in segments]

    def hear(self, text):
        """Hear a frame."""
        frame = read_frame(text)
        if frame is None or frame[0] != "segment":
            return
        to, sender = frame[1:3]
        if to != CONTROLLER or not self._has_line(sender):
            return
        for message in self.lines[sender].take(frame, self.now):
            self._hear_order(sender, read_order(message))
        self._go_on()

    # What happens to sessions and adoptions.

    def _adopts(self):
        return self.phase == "lay" or self.phase in LINE_PHASES

    def _has_line(self, switch):
        return switch in self.laid or (switch == self.target and self.phase in LINE_PHASES)

    def _leave(self, switch):
        for gone in below(self.parents, switch):
            self.laid.pop(gone, None)
            self.parents.pop(gone, None)
            self._awaited.pop(gone, None)
        # Nobody is there to leave while the switch 1 is adopted, so there is an end.
        if self._adopts() and self._end[0] not in self.laid:
            self._give_up()

    def _lose(self, links):
        for link in links:
            for switch in sorted(self.parents):
                # One that hangs on another one may have left already.
                if self.parents.get(switch) in link:
                    self._leave(switch)
            if self._adopts() and self._end in link:
                self._give_up()

    def _give_up(self):
        self.phase = "rest"
        self._awaited = {}

    def _fail(self):
        self._failures[self._end] = self._failures.get(self._end, 0) + 1
        self._give_up()

    # What is said.

    def _say(self, switch):
        if not self._has_line(switch):
            return []
        line = self.lines[switch]
        segments = line.tick(self.now)
        if line.state == "failed":
            if switch in self.laid:
                self._leave(switch)
            else:
                self._fail()
        return segments

    def _send(self, switch, order):
        """Send an order; return whether there was room."""
        try:
            self.lines[switch].send(write_order(order))
        except RoomError:
            return False
        return True

    def _send_probe(self):
        if self.now % 2 != 0:
            return
        turn = self.now // 2 % (MOST_PORT * self._count)
        switch = turn // MOST_PORT + 1
        if switch in self.laid:
            self._send(switch, ("probe", turn % MOST_PORT + 1, self.now))

    def _order(self, switch, orders):
        """Send orders and a barrier, which is awaited. Whether one had no room is kept."""
        self._barrier += 1
        self._awaited[switch] = self._barrier
        for order in [*orders, ("barrier", self._barrier)]:
            if not self._send(switch, order):
                self._wrong = True

    # What is heard.

    def _hear_order(self, switch, order):
        name = None if order is None else order[0]
        if name == "done":
            self._hear_done(switch, order[1], order[2])
        elif name == "link" and switch in self.laid:
            self._hear_link((switch, order[1]), order[2])
        elif name == "port" and switch in self.laid and order[2] == 0:
            self._lose(self.seen.lose((switch, order[1])))

    def _hear_done(self, switch, number, errors):
        if self._awaited.get(switch) != number:
            return
        del self._awaited[switch]
        if errors and self._adopts():
            self._wrong = True
        elif errors:
            self._leave(switch)

    def _hear_link(self, end, other):
        if is_end(self._count, end) and is_end(self._count, other):
            self._lose(self.seen.see(end, other, self.now))

    # What comes next.

    def _go_on(self):
        while not self._awaited and self._do_next():
            pass

    def _do_next(self):
        """Do what comes next when nothing is awaited; return whether there was something."""
        if self.phase == "rest":
            return self._begin()
        if self.phase == "hail" and self.lines[self.target].state != "open":
            return False
        if self._adopts():
            self._adopt_on()
        elif self.phase == "add":
            self._bring("tag")
        elif self.phase == "tag":
            self._bring("drop")
        else:
            self.stage.settle()
            self.phase = "rest"
        return True

    def _begin(self):
        if ROOT not in self.laid:
            self._adopt(ROOT, None)
            return True
        end = self._best_end()
        if self.stage.waits and (end is None or self._failures.get(end, 0) > 0):
            self._bring("add")
            return True
        if end is not None:
            self._adopt(peer(self.seen.links(), end)[0], end)
        return end is not None

    def _best_end(self):
        """Return the best end by which a switch can be adopted, or None."""
        keys = []
        for link in self.seen.links():
            for end, other in (link, link[::-1]):
                if end[0] in self.laid and other[0] not in self.laid:
                    keys.append((self._failures.get(end, 0), len(way(self.parents, end[0])), other[0], end))
        return min(keys)[-1] if keys else None

    def _adopt(self, switch, end):
        self.phase = "lay"
        self.target = switch
        self._end = end
        self._port = 0 if end is None else peer(self.seen.links(), end)[1]
        self._began = self.now
        self._wrong = False
        ports = {} if end is None else dict([*way(self.parents, end[0]), end])
        for other in self.present():
            if other in ports:
                self._order(other, [("way", switch, ports[other])])
                self.laid[other][switch] = ports[other]
            elif switch in self.laid[other]:
                self._unlay(other, switch)

    def _unlay(self, switch, to):
        # What had no room leaves the way where it is, so it is told again the next time.
        if self._send(switch, ("unway", to)):
            del self.laid[switch][to]
        else:
            self._wrong = True

    def _adopt_on(self):
        if self._wrong and self.phase in ("lay", "fill"):
            self._fail()
        elif self.phase == "lay":
            self._hail()
        elif self.phase == "hail":
            self._instruct("check")
        elif not self._wrong:
            self._take_in()
        else:
            self._instruct("mend" if self.phase == "check" else "fill")

    def _hail(self):
        self.phase = "hail"
        self.epoch += 1
        self.lines[self.target].begin(self.epoch, self.now)

    def _instruct(self, phase):
        self.phase = phase
        self._wrong = False
        version = self.stage.now
        rules = self.stage.rules(version, self.target)
        self._order(self.target, orders_to_adopt(phase, version, rules, self._port))

    def _take_in(self):
        if self._end is not None:
            self.parents[self.target] = self._end
        self.laid[self.target] = {CONTROLLER: self._port}
        self._failures.pop(self._end, None)
        self.phase = "rest"

    def _bring(self, phase):
        self.phase = phase
        for switch in self.present():
            # It may have left with one of those before it.
            if switch in self.laid:
                self._wrong = False
                self._order(switch, orders_to_bring(phase, self.stage, switch))
                # Without the orders that had no room, its table would not be what the next phases take it for.
                if self._wrong:
                    self._leave(switch)
