"""Sessions of the controller with a switch, and their two ends (points 12 to 14)."""

from hangbridge.errors import StateError
from hangbridge.senders import Beat, Inbox, Sender

CONTROLLER = 0
HOPS = 12
MOST_TRIES = 6


def segments_of(to, sender, epoch, triples):
    """Return the list of the segments of triples of a kind, a number and a text."""
    return [("segment", to, sender, HOPS, epoch, kind, number, text) for kind, number, text in triples]


class Body:
    """What both ends of a session have: a sender, an inbox, a beat, and whether an ack is owed."""

    def __init__(self):
        self.sender = Sender()
        self.inbox = Inbox()
        self.beat = Beat()
        self.owes = False

    def says(self, now):
        """Return the list of the triples (kind, number, text) that an end says at a tick."""
        says = []
        if self.owes:
            says.append(("ack", self.inbox.next, ""))
            self.owes = False
        rows = self.sender.fresh()
        if rows:
            if not self.beat.runs():
                self.beat.start(now)
        elif self.beat.due(now):
            rows = self.sender.again()
        return says + [("data", number, text) for number, text in rows]

    def hears(self, kind, number, text, now):
        """Hear data or an ack; return the list of the messages whose turn has come."""
        if kind == "data":
            self.owes = True
            return self.inbox.take(number, text)
        if kind == "ack":
            self._hears_ack(number, now)
        return []

    def _hears_ack(self, number, now):
        # None (the number cannot be) and 0 (nothing is new) both leave the beat as it is.
        if self.sender.heard(number):
            self.beat.stop()
            if self.sender.said > 0:
                self.beat.start(now)


class Line:
    """The controller's end of a session with a switch."""

    def __init__(self, to):
        self.epoch = 0
        self.boot = 0
        self.state = "none"
        self._to = to
        self._body = Body()

    def begin(self, epoch, now):
        """Begin with an epoch that is greater than the last one. Raises StateError."""
        if epoch <= self.epoch:
            raise StateError("epoch")
        self.epoch = epoch
        self.boot = 0
        self.state = "hailing"
        self._body = Body()
        self._body.beat.hurry(now)

    def send(self, text):
        """Send a message. Raises StateError and RoomError."""
        if self.state not in ("hailing", "open"):
            raise StateError(self.state)
        self._body.sender.put(text)

    def _says(self, now):
        if self.state == "open":
            return self._body.says(now)
        if self.state == "hailing" and self._body.beat.due(now):
            return [("hail", self.boot, "")]
        return []

    def tick(self, now):
        """Return the list of the segments that it says at a tick."""
        says = self._says(now)
        if self._body.beat.tries >= MOST_TRIES:
            self.state = "failed"
        return segments_of(self._to, CONTROLLER, self.epoch, says)

    def take(self, segment, now):
        """Take a segment; return the list of the messages whose turn has come."""
        sender, epoch = segment[2], segment[4]
        kind, number, text = segment[5:]
        if sender != self._to or epoch != self.epoch:
            return []
        if self.state == "open":
            return self._body.hears(kind, number, text, now)
        if self.state == "hailing":
            self._hears_answer(kind, number, now)
        return []

    def _hears_answer(self, kind, number, now):
        beat = self._body.beat
        if kind == "here" and number != self.boot:
            self.boot = number
            beat.start(now)
            beat.hurry(now)
        elif kind == "open" and number == self.boot and number != 0:
            self.state = "open"
            beat.stop()
            beat.tries = 0


class Guest:
    """The switch's end of a session with the controller."""

    def __init__(self, own, boot):
        self.epoch = 0
        self.boot = boot
        self._own = own
        self._body = None
        self._quiet = True

    def send(self, text):
        """Send a message; it is lost without a session. Raises RoomError."""
        if self._body is not None:
            self._body.sender.put(text)

    def tick(self, now):
        """Return the list of the segments that it says at a tick."""
        if self._quiet:
            return []
        return segments_of(CONTROLLER, self._own, self.epoch, self._body.says(now))

    def take(self, segment, now):
        """Take a segment; return the pair of the messages whose turn has come and the segments that answer."""
        epoch, kind, number, text = segment[4:]
        if kind == "hail":
            return [], self._answers(epoch, number)
        if kind not in ("data", "ack") or self._body is None or epoch != self.epoch:
            return [], []
        self._quiet = False
        return self._body.hears(kind, number, text, now), []

    def _answers(self, epoch, number):
        if number != self.boot:
            return segments_of(CONTROLLER, self._own, epoch, [("here", self.boot, "")])
        if epoch < self.epoch:
            return []
        if epoch > self.epoch:
            self.epoch = epoch
            self._body = Body()
            # The line may not be open yet, so the guest waits until it hears it.
            self._quiet = True
        return segments_of(CONTROLLER, self._own, epoch, [("open", self.boot, "")])
