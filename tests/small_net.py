"""A net for tests of the controller with switches and lanes, and what has to hold in it (points 34 to 37 and 45)."""

from hangbridge.agents import Agent
from hangbridge.brains import Brain
from hangbridge.frames import write_frame
from hangbridge.graphs import peer
from hangbridge.lanes import Lane
from hangbridge.policies import does
from hangbridge.trees import way

CONTROLLER_END, TOP_END = (0, 0), (1, 0)


class SmallNet:
    def __init__(self, graph):
        self.graph = graph
        self.brain = Brain(graph[1])
        self.agents = {switch: Agent(switch, 1) for switch in range(1, graph[1] + 1)}
        ends = [end for link in graph[2] for end in link]
        self.lanes = {end: Lane() for end in sorted([CONTROLLER_END, TOP_END, *ends])}
        self.cuts = {}
        # For each version its policy, and its rules at each switch.
        self.policies = {}
        self.rules = {}
        self.events = []
        self.data = 0
        # The switches that must have a tag from now on.
        self.kept = {}

    def put(self, switch, pairs):
        for port, text in pairs:
            if (switch, port) in self.lanes:
                self.lanes[switch, port].put(text)

    def hold(self):
        """Check what must hold behind each step."""
        self.check_ways()
        self.check_tags()

    def is_known(self, switch):
        """Return whether the controller knows the last beginning of a switch."""
        return self.brain.lines[switch].boot == self.agents[switch].guest.boot

    def check_ways(self):
        brain = self.brain
        for switch in brain.present():
            ends = way(brain.parents, switch)
            if not all(self.is_known(other) for other in [switch, *[end[0] for end in ends]]):
                continue
            up = 0
            for end in ends:
                table = self.agents[end[0]].table
                assert table.ways.get(switch) == end[1], (switch, ends)
                assert table.ways.get(0) == up, (switch, ends)
                other = peer(brain.seen.links(), end)
                assert other is not None
                up = other[1]
            assert self.agents[switch].table.ways.get(0) == up, (switch, ends)

    def check_tags(self):
        stage = self.brain.stage
        for switch, agent in self.agents.items():
            table = agent.table
            assert table.count() <= 64
            # Whatever the tag is, all rules of this version are there, in order.
            if table.tag:
                rules = self.rules[table.tag][switch]
                assert table.rules.get(table.tag, []) == rules, (switch, table.tag)
            if stage.now and table.tag and switch not in self.kept:
                self.kept[switch] = True
            assert table.tag or switch not in self.kept, switch

    def tick(self):
        now = self.brain.now
        texts = self.brain.tick()
        self.put(0, [(0, text) for text in texts])
        for switch, agent in self.agents.items():
            self.put(switch, agent.tick(now))
        self.hold()

    def deliver(self, end):
        text = self.lanes[end].deliver()
        if text is None:
            return False
        now = self.brain.now
        if end == TOP_END:
            self.brain.hear(text)
        else:
            switch, port = TOP_END if end == CONTROLLER_END else peer(self.graph[2], end)
            pairs, events = self.agents[switch].take(port, text, now)
            self.put(switch, pairs)
            self.see(events)
        self.hold()
        return True

    def see(self, events):
        for event in events:
            switch, port, version, _, header, sent = event
            assert sent in ([], does(self.policies[version], switch, port, header)), event
        self.events.extend(events)

    def round(self):
        self.tick()
        counts = {end: len(lane.frames) for end, lane in self.lanes.items()}
        for end in self.lanes:
            for _ in range(counts[end]):
                self.deliver(end)

    def cut(self, link, down):
        if (link in self.cuts) == down:
            return
        for end in link:
            self.lanes[end].clear()
        if down:
            self.cuts[link] = True
        else:
            del self.cuts[link]
        for switch, port in link:
            self.agents[switch].turn(port, not down)

    def reboot(self, switch):
        agent = Agent(switch, self.agents[switch].guest.boot + 1)
        for link in self.cuts:
            for end in link:
                if end[0] == switch:
                    agent.turn(end[1], False)
        self.agents[switch] = agent
        self.kept.pop(switch, None)

    def restart(self):
        self.brain = self.brain.restarted()

    def offer(self, policy):
        stage = self.brain.stage
        version = stage.offer(policy)
        self.policies[version] = policy
        self.rules[version] = {switch: stage.rules(version, switch) for switch in self.agents}
        return version

    def inject(self, switch, header):
        self.data += 1
        text = write_frame(("datum", 0, 12, self.data, header))
        pairs, events = self.agents[switch].take(0, text, self.brain.now)
        self.put(switch, pairs)
        self.see(events)

    def settled(self):
        brain = self.brain
        return brain.present() == list(self.agents) and brain.phase == "rest" and not brain.stage.waits

    def check_settled(self):
        """Check what point 37 promises."""
        assert self.settled(), (self.brain.present(), self.brain.phase)
        for switch, agent in self.agents.items():
            now = self.brain.stage.now
            assert agent.table.tag == now
            rules = {version: rows for version, rows in agent.table.rules.items() if rows}
            expected = self.brain.stage.rules(now, switch)
            assert rules == ({now: expected} if expected else {}), (switch, rules)
