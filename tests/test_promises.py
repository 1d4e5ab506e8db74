"""What holds behind each step of a net, whatever is lost, cut and begun anew (points 35 to 39 and 45)."""

import random
import unittest

from hangbridge.errors import StateError
from hangbridge.graphs import link_of, reached
from tests.small_net import SmallNet


def chain_graph(count):
    return ("graph", count, [((switch, 2), (switch + 1, 1)) for switch in range(1, count)])


def ring_graph(count):
    return ("graph", count, sorted([*chain_graph(count)[2], ((1, 6), (count, 6))]))


def random_graph(chance, count):
    """Return a graph whose links join all its switches."""
    while True:
        ends = [(switch, port) for switch in range(1, count + 1) for port in range(1, 7)]
        chance.shuffle(ends)
        pairs = [(ends.pop(), ends.pop()) for _ in range(chance.randrange(count - 1, count + 4))] if count > 1 else []
        links = sorted(link_of(one, other) for one, other in pairs if one[0] != other[0])
        if len(reached(links, 1)) == count:
            return ("graph", count, links)


def random_policy(chance, count):
    parts = []
    for _ in range(chance.randrange(6)):
        parts.append(("seq", [("test", ("is", "switch", chance.randrange(1, count + 1))),
                              ("test", ("is", "dst", chance.randrange(4))), ("set", "port", chance.randrange(7))]))
    return ("sum", parts)


def forwarding(graph):
    """Return the policy by which data go around a ring and out where their dst is."""
    count = graph[1]
    parts = []
    for switch in range(1, count + 1):
        here = ("test", ("is", "switch", switch))
        out = 6 if switch == count else 2
        parts.append(("seq", [here, ("test", ("is", "dst", switch)), ("set", "port", 0)]))
        parts.append(("seq", [here, ("test", ("not", ("is", "dst", switch))), ("set", "port", out)]))
    return ("sum", parts)


class Ordinary(unittest.TestCase):
    def test_one_switch(self):
        net = SmallNet(("graph", 1, []))
        for _ in range(20):
            net.round()
        self.assertTrue(net.settled())
        table = net.agents[1].table
        self.assertEqual((net.brain.now, table.tag, table.ways, table.rules), (20, 0, {0: 0}, {}))

    def test_a_ring_forwards_data(self):
        graph = ring_graph(5)
        net = SmallNet(graph)
        net.offer(forwarding(graph))
        while not net.settled():
            net.round()
        net.check_settled()
        net.inject(4, (1, 3, 0))
        for _ in range(6):
            net.round()
        self.assertEqual([event[0] for event in net.events], [4, 5, 1, 2, 3])
        self.assertEqual(net.events[-1][5], [(0, (1, 3, 0))])

    def test_versions_change_while_data_are_on_their_way(self):
        graph = ring_graph(4)
        net = SmallNet(graph)
        chance = random.Random(2)
        for _ in range(8):
            try:
                net.offer(forwarding(graph))
            except StateError:
                pass
            for _ in range(60):
                net.inject(chance.randrange(1, 5), (0, chance.randrange(6), 0))
                net.round()
        self.assertGreater(net.brain.stage.now, 3)
        versions = {}
        for event in net.events:
            self.assertEqual(versions.setdefault(event[3], event[2]), event[2])
        self.assertGreater(len(set(versions.values())), 3)

    def test_a_cut_ring_goes_the_other_way(self):
        net = SmallNet(ring_graph(5))
        while not net.settled():
            net.round()
        net.cut(((1, 2), (2, 1)), True)
        for _ in range(300):
            net.round()
        net.check_settled()
        self.assertEqual(net.brain.parents, {5: (1, 6), 4: (5, 1), 3: (4, 1), 2: (3, 1)})

    def test_tables_are_kept_when_the_controller_begins_anew(self):
        graph = ring_graph(3)
        net = SmallNet(graph)
        net.offer(forwarding(graph))
        while not net.settled():
            net.round()
        net.restart()
        for _ in range(200):
            net.round()
            # Data go on as before all the while.
            before = len(net.events)
            net.inject(1, (0, 3, 0))
            self.assertEqual(len(net.events), before + 1)
            self.assertEqual(net.events[-1][5], [(2, (0, 3, 0))])
        net.check_settled()

    def test_a_switch_begins_anew(self):
        graph = ring_graph(4)
        net = SmallNet(graph)
        net.offer(forwarding(graph))
        while not net.settled():
            net.round()
        for switch in (3, 1):
            net.reboot(switch)
            for _ in range(400):
                net.round()
            net.check_settled()

    def test_lanes_that_lose_everything(self):
        net = SmallNet(chain_graph(3))
        while not net.settled():
            net.round()
        for _ in range(300):
            net.tick()
            for lane in net.lanes.values():
                lane.clear()
        self.assertEqual(net.brain.present(), [])
        for _ in range(400):
            net.round()
        net.check_settled()

    def test_malformed_frames(self):
        net = SmallNet(chain_graph(2))
        twin = SmallNet(chain_graph(2))
        chance = random.Random(3)
        for _ in range(200):
            # What goes on is the same in both nets, but for the frames that are dropped in one of them.
            for lane in net.lanes.values():
                if chance.random() < 0.3:
                    lane.put("segment 1 0 12 1 hail 0 *1")
            net.round()
            twin.round()
            self.assertEqual((net.brain.phase, net.brain.laid, net.brain.parents),
                             (twin.brain.phase, twin.brain.laid, twin.brain.parents))
            for switch in (1, 2):
                one, other = net.agents[switch], twin.agents[switch]
                self.assertEqual((one.table.ways, one.uplink, one.errors), (other.table.ways, other.uplink, other.errors))
        self.assertTrue(net.settled())
        self.assertGreater(net.agents[1].dropped, twin.agents[1].dropped)


class Random(unittest.TestCase):
    def step(self, net, chance):
        """Do something by chance; SmallNet checks behind it what must hold."""
        count = net.graph[1]
        kind = chance.random()
        lane = chance.choice(list(net.lanes.values()))
        if kind < 0.6:
            net.round()
        elif kind < 0.7:
            for _ in range(chance.randrange(20)):
                net.deliver(chance.choice(list(net.lanes)))
        elif kind < 0.8:
            chance.choice([lane.lose, lane.double, lane.hasten])(chance.randrange(3))
        elif kind < 0.83 and net.graph[2]:
            net.cut(chance.choice(net.graph[2]), chance.random() < 0.5)
        elif kind < 0.85:
            net.reboot(chance.randrange(1, count + 1))
        elif kind < 0.86:
            net.restart()
        elif kind < 0.9 and not net.brain.stage.waits:
            net.offer(random_policy(chance, count))
        elif kind < 0.95:
            net.inject(chance.randrange(1, count + 1), (chance.randrange(3), chance.randrange(4), 0))
        else:
            net.tick()
        net.hold()

    def mend(self, net):
        """Let rounds pass until what point 37 promises has come true, and stays so."""
        for link in list(net.cuts):
            net.cut(link, False)
        good = 0
        for _ in range(1000 + 500 * net.graph[1]):
            net.round()
            good = good + 1 if net.settled() else 0
            if good > 250:
                break
        net.check_settled()

    def test_random(self):
        for seed in range(40):
            chance = random.Random(seed)
            with self.subTest(seed=seed):
                net = SmallNet(random_graph(chance, chance.randrange(1, 9)))
                for _ in range(chance.randrange(50, 300)):
                    self.step(net, chance)
                self.mend(net)


if __name__ == "__main__":
    unittest.main()
