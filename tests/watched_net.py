"""A net in which it is checked, behind each step, what has to hold there (points 35, 36, 38, 41 and 45)."""

from hangbridge.graphs import link_of, peer
from hangbridge.judging import judge
from hangbridge.nets import Net
from hangbridge.policies import does
from hangbridge.trees import way


class WatchedNet(Net):
    def __init__(self, graph):
        super().__init__(graph)
        # For each version its rules at each switch.
        self.rules = {}
        # The switches that must have a tag from now on.
        self.kept = {}
        # For pairs of a switch and an epoch what the controller sent, and for these with a boot number what was done.
        self.sent = {}
        self.obeyed = {}
        for switch in self.agents:
            self.watch_agent(switch)
        self.watch_brain()

    # Orders are noted where they are sent and where they are done.

    def watch_brain(self):
        for switch, line in self.brain.lines.items():
            self.watch_line(switch, line)

    def watch_line(self, switch, line):
        send = line.send

        def noted(text):
            send(text)
            self.sent.setdefault((switch, line.epoch), []).append(text)
        line.send = noted

    def watch_agent(self, switch):
        agent = self.agents[switch]
        take = agent.guest.take

        def noted(segment, now):
            messages, answers = take(segment, now)
            if messages:
                key = (switch, agent.guest.epoch)
                told = self.obeyed.setdefault((*key, agent.guest.boot), [])
                told.extend(messages)
                assert told == self.sent.get(key, [])[:len(told)], key
            return messages, answers
        agent.guest.take = noted

    # What must hold.

    def hold(self):
        self.check_ways()
        self.check_tags()

    def is_known(self, switch):
        """Return whether the controller knows the last beginning of a switch."""
        return self.brain.lines[switch].boot == self.agents[switch].guest.boot

    def check_ways(self):
        brain = self.brain
        kept = brain.seen.links()
        for switch in brain.present():
            ends = way(brain.parents, switch)
            if not all(self.is_known(other) for other in [switch, *[end[0] for end in ends]]):
                continue
            up = 0
            for end in ends:
                ways = self.agents[end[0]].table.ways
                assert (ways.get(switch), ways.get(0)) == (end[1], up), (switch, ends)
                other = peer(kept, end)
                assert other is not None and link_of(end, other) in kept, (switch, ends)
                up = other[1]
            assert self.agents[switch].table.ways.get(0) == up, (switch, ends)

    def check_tags(self):
        stage = self.brain.stage
        for switch, agent in self.agents.items():
            table = agent.table
            assert table.count() <= 64
            # Whatever the tag is, all rules of this version are there, in order.
            if table.tag:
                assert table.rules.get(table.tag, []) == self.rules[table.tag][switch], (switch, table.tag)
            if stage.now and table.tag:
                self.kept[switch] = True
            assert table.tag or switch not in self.kept, switch

    def check_events(self, many):
        """Check the events behind the first ones."""
        for switch, port, version, _, header, sent in self.events[many:]:
            assert sent in ([], does(self.policies[version], switch, port, header))

    def check_judge(self):
        assert judge(self.graph, self.policies, self.events) is None

    def check_settled(self):
        """Check what point 37 promises."""
        assert self.settled(), (self.brain.present(), self.brain.phase)
        for switch, agent in self.agents.items():
            now = self.brain.stage.now
            assert agent.table.tag == now
            rules = {version: rows for version, rows in agent.table.rules.items() if rows}
            expected = self.brain.stage.rules(now, switch)
            assert rules == ({now: expected} if expected else {}), (switch, rules)

    # The steps.

    def tick(self):
        super().tick()
        self.hold()

    def deliver(self, end):
        many = len(self.events)
        there = super().deliver(end)
        if there:
            self.check_events(many)
            self.hold()
        return there

    def cut(self, link, down):
        super().cut(link, down)
        self.hold()

    def reboot(self, switch):
        super().reboot(switch)
        self.watch_agent(switch)
        self.kept.pop(switch, None)
        self.hold()

    def restart(self):
        super().restart()
        self.watch_brain()
        self.hold()

    def offer(self, policy):
        version = super().offer(policy)
        stage = self.brain.stage
        self.rules[version] = {switch: stage.rules(version, switch) for switch in self.agents}
        self.hold()
        return version

    def inject(self, switch, header):
        many = len(self.events)
        number = super().inject(switch, header)
        self.check_events(many)
        return number


