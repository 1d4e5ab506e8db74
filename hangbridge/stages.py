"""The policies of the controller by their versions (point 26)."""

from hangbridge.compiling import rules_for
from hangbridge.errors import PolicyError, RoomError, StateError
from hangbridge.orders import MOST_OUTS
from hangbridge.policies import check, copied, sets_field
from hangbridge.tables import MOST_ENTRIES

MOST_VERSIONS = 200


class Stage:
    """A current policy and one that waits, or none, each with a version, and the rules that they have at switches."""

    def __init__(self, count):
        self.now = 0
        self.waits = 0
        self.taken = 0
        self._count = count
        self._policies = {}
        self._tables = {}

    def offer(self, policy):
        """Let a policy wait; return its version. Raises PolicyError, StateError and RoomError."""
        check(policy)
        if sets_field(policy, "switch"):
            raise PolicyError(())
        if self.waits:
            raise StateError("waits")
        if self.taken >= MOST_VERSIONS:
            raise RoomError("versions")
        tables = {switch: rules_for(policy, switch) for switch in range(1, self._count + 1)}
        for switch in tables:
            self._check_room(switch, tables[switch])
        self.taken += 1
        self.waits = self.taken
        self._policies[self.waits] = copied(policy)
        self._tables[self.waits] = tables
        return self.waits

    def _check_room(self, switch, rules):
        if max([len(outs) for _, outs in rules], default=0) > MOST_OUTS:
            raise RoomError("outs")
        # A switch may have a control way to each switch and one to the controller.
        if self._count + 1 + len(self.rules(self.now, switch)) + len(rules) > MOST_ENTRIES:
            raise RoomError("rules")

    def settle(self):
        """Make the policy that waits the current one. Raises StateError."""
        if not self.waits:
            raise StateError("none")
        self._policies.pop(self.now, None)
        self._tables.pop(self.now, None)
        self.now = self.waits
        self.waits = 0

    def rules(self, version, switch):
        """Return the list of the rules that the current version, or the one that waits, has at a switch."""
        rows = self._tables.get(version, {}).get(switch, [])
        return [(match, list(outs)) for match, outs in rows]

    def policy(self, version):
        """Return the policy of the current version, or of the one that waits; None for other ones."""
        policy = self._policies.get(version)
        return None if policy is None else copied(policy)
