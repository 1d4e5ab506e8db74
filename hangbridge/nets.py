"""Nets: a controller, switches and lanes, which are moved step by step (point 34)."""

from hangbridge.agents import OUTSIDE, Agent
from hangbridge.brains import Brain
from hangbridge.frames import write_frame
from hangbridge.graphs import peer
from hangbridge.lanes import Lane

# The lanes from the controller to the port 0 of the switch 1, and from there to the controller.
DOWN_LANE = (0, 0)
UP_LANE = (1, 0)
FIRST_BOOT = 1
DATUM_HOPS = 12


class Net:
    """A net of a graph, at its beginning."""

    def __init__(self, graph):
        _, count, links = graph
        ends = [end for link in links for end in link]
        self.graph = graph
        self.brain = Brain(count)
        self.agents = {switch: Agent(switch, FIRST_BOOT) for switch in range(1, count + 1)}
        self.lanes = {end: Lane() for end in sorted([DOWN_LANE, UP_LANE, *ends])}
        self.cuts = {}
        self.policies = {}
        self.events = []
        self._data = 0

    def tick(self):
        """Let a tick of the controller pass, and then one of each switch."""
        now = self.brain.now
        for text in self.brain.tick():
            self.lanes[DOWN_LANE].put(text)
        for switch in sorted(self.agents):
            self._put(switch, self.agents[switch].tick(now))

    def round(self):
        """Let a tick pass, and deliver as many frames of each lane as were there behind it."""
        self.tick()
        many = {end: len(self.lanes[end].frames) for end in self.lanes}
        for end in sorted(many):
            for _ in range(many[end]):
                self.deliver(end)

    def deliver(self, end):
        """Let the first frame of a lane come in at the other end; return whether there was a frame."""
        text = self.lanes[end].deliver() if end in self.lanes else None
        if text is None:
            return False
        if end == UP_LANE:
            self.brain.hear(text)
        elif end == DOWN_LANE:
            self._let_in(UP_LANE, text)
        else:
            self._let_in(peer(self.graph[2], end), text)
        return True

    def cut(self, link, down):
        """Cut or heal a link; its frames are lost. Nothing happens if it is as it should be."""
        if link not in self.graph[2] or (link in self.cuts) == down:
            return
        if down:
            self.cuts[link] = True
        else:
            del self.cuts[link]
        for end in link:
            self.lanes[end].clear()
        for switch, port in link:
            self.agents[switch].turn(port, not down)

    def reboot(self, switch):
        """Let a switch begin anew, with the next boot number."""
        if switch not in self.agents:
            return
        agent = Agent(switch, self.agents[switch].guest.boot + 1)
        for link in self.cuts:
            for owner, port in link:
                if owner == switch:
                    agent.turn(port, False)
        self.agents[switch] = agent

    def restart(self):
        """Let the controller fall and begin anew."""
        self.brain = self.brain.restarted()

    def offer(self, policy):
        """Offer a policy to the stage; return its version. Raises PolicyError, StateError and RoomError."""
        version = self.brain.stage.offer(policy)
        self.policies[version] = policy
        return version

    def inject(self, switch, header):
        """Let a datum come in from outside at a switch; return its number."""
        self._data += 1
        # The switch gives it a version.
        self._let_in((switch, OUTSIDE), write_frame(("datum", 0, DATUM_HOPS, self._data, header)))
        return self._data

    def settled(self):
        """Return whether all switches are in session, the phase is "rest" and no policy waits."""
        brain = self.brain
        return brain.present() == sorted(self.agents) and brain.phase == "rest" and not brain.stage.waits

    def _put(self, switch, pairs):
        for port, text in pairs:
            # What goes out at a port without a link is gone.
            if (switch, port) in self.lanes:
                self.lanes[switch, port].put(text)

    def _let_in(self, end, text):
        switch, port = end
        if switch in self.agents:
            pairs, events = self.agents[switch].take(port, text, self.brain.now)
            self._put(switch, pairs)
            self.events.extend(events)
