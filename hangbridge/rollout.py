"""From one policy to another, by deeds at the switches (points 78 to 80)."""

from hangbridge.asking import steps
from hangbridge.errors import StateError

OLD = 0
NEW = 1


class Rollout:
    """A net that changes from an old policy to a new one, in which nothing is done yet."""

    def __init__(self, graph, old, new):
        self.flying = []
        self.told = []
        self._graph = graph
        self._policies = (old, new)
        # For each deed, the switches at which it is done.
        self._done = {"install": {}, "turn": {}, "remove": {}}
        self._data = 0

    def may(self, deed, switch):
        """Return whether a deed may be done."""
        if deed not in self._done or not self._is_switch(switch) or switch in self._done[deed]:
            return False
        if deed == "turn":
            return self._is_done_everywhere("install")
        if deed == "remove":
            return self._is_done_everywhere("turn") and OLD not in [version for _, version, _ in self.flying]
        return True

    def perform(self, deed, switch):
        """Do a deed. Raises StateError."""
        if not self.may(deed, switch):
            raise StateError((deed, switch))
        self._done[deed][switch] = True

    def has(self, switch, version):
        """Return whether a switch has the rules of a version."""
        if version == NEW:
            return switch in self._done["install"]
        return version == OLD and self._is_switch(switch) and switch not in self._done["remove"]

    def enter(self, switch, port, header):
        """Let a datum come in; return its number."""
        number = self._data
        self._data += 1
        version = NEW if switch in self._done["turn"] else OLD
        self.flying.append((number, version, (switch, port, header)))
        return number

    def move(self, index):
        """Move the flying datum with an index. Raises StateError."""
        if not 0 <= index < len(self.flying):
            raise StateError(index)
        number, version, place = self.flying.pop(index)
        # Without the rules nothing is done, and the datum is gone.
        rows = steps(self._policies[version], self._graph, place) if self.has(place[0], version) else []
        for row in rows:
            if row[0] == "in":
                self.flying.append((number, version, row[1]))
            else:
                self.told.append((number, version, *row))

    def _is_switch(self, switch):
        return 1 <= switch <= self._graph[1]

    def _is_done_everywhere(self, deed):
        return len(self._done[deed]) == self._graph[1]
