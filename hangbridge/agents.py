"""Switches: what they do with frames and with orders (points 17 to 22)."""

from hangbridge.errors import RoomError
from hangbridge.frames import read_frame, write_frame
from hangbridge.graphs import MOST_PORT
from hangbridge.orders import read_order, write_order
from hangbridge.sessions import Guest
from hangbridge.tables import Table

OUTSIDE = 0


def change_table(table, order):
    """Change a table as an order tells, and not at all by other orders; return whether there was nothing amiss."""
    name = order[0]
    if name == "tag":
        return table.retag(order[1], order[2])
    if name == "keep":
        return table.keep(order[1], order[2])
    if name == "add":
        return table.add(order[1], order[2], order[3])
    if name == "way":
        return table.lay(order[1], order[2])
    if name == "wipe":
        table.wipe()
    elif name == "strip":
        table.strip()
    elif name == "drop":
        table.drop(order[1])
    elif name == "unway":
        table.unlay(order[1])
    return True


class Agent:
    """A switch."""

    def __init__(self, number, boot):
        self.table = Table()
        self.guest = Guest(number, boot)
        self.living = {port: True for port in range(1, MOST_PORT + 1)}
        self.uplink = OUTSIDE
        self.errors = 0
        self.dropped = 0
        self._number = number

    def take(self, port, text, now):
        """Take a frame; return the pair of the pairs (port, text) that go out, and the events."""
        frame = read_frame(text) if self._lives(port) else None
        if frame is None:
            return self._drop(), []
        if frame[0] == "datum":
            return self._take_datum(port, frame)
        if frame[0] == "probe":
            return self._take_probe(port, frame), []
        return self._take_segment(port, frame, now), []

    def tick(self, now):
        """Return the pairs (port, text) that go out at a tick."""
        return self._going_out([(self.uplink, segment) for segment in self.guest.tick(now)])

    def turn(self, port, up):
        """Let a port live or not; a change is told in the session."""
        if port == OUTSIDE or self._lives(port) == up:
            return
        if up:
            self.living[port] = True
        else:
            del self.living[port]
        self._tell(("port", port, 1 if up else 0))

    def _lives(self, port):
        return port == OUTSIDE or port in self.living

    def _going_out(self, pairs):
        return [(port, write_frame(frame)) for port, frame in pairs if self._lives(port)]

    def _drop(self):
        self.dropped += 1
        return []

    def _tell(self, order):
        try:
            self.guest.send(write_order(order))
        except RoomError:
            self.errors += 1

    def _take_datum(self, port, datum):
        version, hops, number, header = datum[1:]
        if port == OUTSIDE:
            version = self.table.tag
        if version == 0 or hops == 0:
            return self._drop(), []
        sent = self.table.does(version, port, header)
        pairs = [(out, ("datum", version, hops - 1, number, left)) for out, left in sent if out != OUTSIDE]
        return self._going_out(pairs), [(self._number, port, version, number, header, sent)]

    def _take_probe(self, port, probe):
        origin, nonce, found = probe[1:]
        here = (self._number, port)
        if port == OUTSIDE or (found is not None and origin != here):
            return self._drop()
        if found is None:
            return self._going_out([(port, ("probe", origin, nonce, here))])
        self._tell(("link", port, found, nonce))
        return []

    def _take_segment(self, port, segment, now):
        if segment[1] != self._number:
            return self._pass_on(segment)
        messages, answers = self.guest.take(segment, now)
        if self._is_uplink(segment, answers):
            self.uplink = port
        pairs = [(port, answer) for answer in answers]
        for message in messages:
            pairs.extend(self._obey(message))
        return self._going_out(pairs)

    def _pass_on(self, segment):
        to, sender, hops, *rest = segment[1:]
        port = self.table.ways.get(to)
        if hops == 0 or port is None:
            return self._drop()
        return self._going_out([(port, ("segment", to, sender, hops - 1, *rest))])

    def _is_uplink(self, segment, answers):
        epoch, kind = segment[4:6]
        if "open" in [answer[5] for answer in answers]:
            return True
        # The guest has the epoch 0 without a session; nothing can have the epoch of a session then.
        return kind != "hail" and epoch != 0 and epoch == self.guest.epoch

    def _obey(self, text):
        """Do an order; return the pairs (port, frame) that it sends."""
        order = read_order(text)
        if order is None:
            self.errors += 1
        elif order[0] == "probe":
            return self._probe_at(order[1], order[2])
        elif order[0] == "barrier":
            errors = self.errors
            self.errors = 0
            self._tell(("done", order[1], errors))
        elif order[0] == "keep":
            self.errors = 0 if change_table(self.table, order) else 1
        elif not change_table(self.table, order):
            self.errors += 1
        return []

    def _probe_at(self, port, nonce):
        if port == OUTSIDE:
            return []
        return [(port, ("probe", (self._number, port), nonce, None))]
