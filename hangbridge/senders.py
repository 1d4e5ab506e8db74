"""The windows of a session: what is said again until it is heard, and in which order (points 9 to 11)."""

from hangbridge.errors import RoomError

MOST_MESSAGES = 300
WINDOW = 4
FIRST_WAIT = 2
LONGEST_WAIT = 16


class Sender:
    """Messages that are not yet heard, with consecutive numbers; some of the first ones were said."""

    def __init__(self):
        self.first = 0
        self.rows = []
        self.said = 0

    def put(self, body):
        """Put a message behind the others. Raises RoomError."""
        if len(self.rows) >= MOST_MESSAGES:
            raise RoomError("queue")
        self.rows.append(body)

    def _numbered(self, start, stop):
        return [(self.first + at, self.rows[at]) for at in range(start, stop)]

    def fresh(self):
        """Say the fresh messages; return the list of the pairs of their numbers and themselves."""
        start = self.said
        self.said = min(WINDOW, len(self.rows))
        return self._numbered(start, self.said)

    def again(self):
        """Return the list of the pairs of a number and a message for all that were said."""
        return self._numbered(0, self.said)

    def heard(self, ack):
        """Forget the messages before a number; return how many, or None if it cannot be heard."""
        many = ack - self.first
        if many < 0 or many > self.said:
            return None
        self.rows = self.rows[many:]
        self.said -= many
        self.first = ack
        return many


class Inbox:
    """The number of the message that comes next, and messages that came too early."""

    def __init__(self):
        self.next = 0
        self._early = {}

    def take(self, number, body):
        """Take a message; return the list of the messages whose turn has come, in order."""
        if self.next <= number < self.next + WINDOW and number not in self._early:
            self._early[number] = body
        ready = []
        while self.next in self._early:
            ready.append(self._early.pop(self.next))
            self.next += 1
        return ready


class Beat:
    """Tells when something is said again, with longer and longer waits."""

    def __init__(self):
        self.tries = 0
        self._wait = FIRST_WAIT
        self._due_at = None

    def start(self, now):
        """Start at a tick: it is due after the first wait."""
        self.tries = 0
        self._wait = FIRST_WAIT
        self._due_at = now + FIRST_WAIT

    def stop(self):
        """Stop: it is not due any more. The count stays until it is started."""
        self._due_at = None

    def hurry(self, now):
        """Be due at a tick, also if it was stopped."""
        self._due_at = now

    def runs(self):
        """Return whether it is not stopped."""
        return self._due_at is not None

    def due(self, now):
        """Return whether it is due at a tick; if so, the next wait begins."""
        if self._due_at is None or now < self._due_at:
            return False
        self.tries += 1
        self._wait = min(self._wait * 2, LONGEST_WAIT)
        self._due_at = now + self._wait
        return True
