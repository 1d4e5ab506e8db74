"""What holds behind each step of a net, whatever is lost, cut and begun anew (points 35 to 39 and 45)."""

import random
import unittest

from hangbridge.errors import StateError
from hangbridge.frames import read_frame, write_frame
from hangbridge.nets import Net
from tests.net_samples import chain_graph, disturb, forwarding, left_alone, random_graph, ring_graph, ruled, twins
from tests.watched_net import WatchedNet

MALFORMED = ["", "x", "*", "*7", "segment 1 0 12 1 hail 0 *1", "datum 1 2 3", "datum 1 12 1 0 0 0*0",
             "probe 1 2 3*", "segment 0 1 12 1 data 0 done 1 0*5", "datum 1 2 3 4 5 6 7*2", "\u00e9*1", "* *", "probe 1 1 1* "]


class Ordinary(unittest.TestCase):
    def test_one_switch(self):
        net = WatchedNet(("graph", 1, []))
        for _ in range(20):
            net.round()
        self.assertTrue(net.settled())
        table = net.agents[1].table
        self.assertEqual((net.brain.now, table.tag, table.ways, table.rules), (20, 0, {0: 0}, {}))

    def test_a_ring_forwards_data(self):
        graph = ring_graph(5)
        net = WatchedNet(graph)
        net.offer(forwarding(graph))
        while not net.settled():
            net.round()
        net.check_settled()
        net.inject(4, (1, 3, 0))
        for _ in range(6):
            net.round()
        self.assertEqual([event[0] for event in net.events], [4, 5, 1, 2, 3])
        self.assertEqual(net.events[-1][5], [(0, (1, 3, 0))])

    def test_versions_change_while_data_are_on_their_way(self):
        graph = ring_graph(4)
        net = WatchedNet(graph)
        chance = random.Random(2)
        for _ in range(8):
            try:
                net.offer(forwarding(graph))
            except StateError:
                pass
            for _ in range(60):
                net.inject(chance.randrange(1, 5), (0, chance.randrange(6), 0))
                net.round()
        self.assertGreater(net.brain.stage.now, 3)
        versions = {}
        for event in net.events:
            self.assertEqual(versions.setdefault(event[3], event[2]), event[2])
        self.assertGreater(len(set(versions.values())), 3)

    def test_a_cut_ring_goes_the_other_way(self):
        net = WatchedNet(ring_graph(5))
        while not net.settled():
            net.round()
        net.cut(((1, 2), (2, 1)), True)
        for _ in range(300):
            net.round()
        net.check_settled()
        self.assertEqual(net.brain.parents, {5: (1, 6), 4: (5, 1), 3: (4, 1), 2: (3, 1)})

    def test_tables_are_kept_when_the_controller_begins_anew(self):
        graph = ring_graph(3)
        net = WatchedNet(graph)
        net.offer(forwarding(graph))
        while not net.settled():
            net.round()
        net.restart()
        for _ in range(200):
            net.round()
            # Data go on as before all the while.
            before = len(net.events)
            net.inject(1, (0, 3, 0))
            self.assertEqual(len(net.events), before + 1)
            self.assertEqual(net.events[-1][5], [(2, (0, 3, 0))])
        net.check_settled()

    def test_a_switch_begins_anew(self):
        graph = ring_graph(4)
        net = WatchedNet(graph)
        net.offer(forwarding(graph))
        while not net.settled():
            net.round()
        for switch in (3, 1):
            net.reboot(switch)
            for _ in range(400):
                net.round()
            net.check_settled()

    def test_lanes_that_lose_everything(self):
        net = WatchedNet(chain_graph(3))
        while not net.settled():
            net.round()
        for _ in range(300):
            net.tick()
            for lane in net.lanes.values():
                lane.clear()
        self.assertEqual(net.brain.present(), [])
        for _ in range(400):
            net.round()
        net.check_settled()


class Malformed(unittest.TestCase):
    """Malformed frames change nothing but the number of dropped frames (points 5, 33 and 39)."""

    def seen_of(self, net):
        """Return all that can be seen of a net, but the numbers of dropped frames."""
        brain = net.brain
        switches = [(agent.table.ways, agent.table.rules, agent.table.tag, agent.uplink, agent.errors, agent.living,
                     agent.guest.epoch, agent.guest.boot) for agent in net.agents.values()]
        return ([lane.frames for lane in net.lanes.values()], switches, net.events, brain.now, brain.epoch, brain.phase,
                brain.target, brain.parents, brain.laid, brain.seen.links(), brain.stage.now, brain.stage.waits,
                [(line.state, line.epoch, line.boot) for line in brain.lines.values()])

    def test_they_are_malformed(self):
        for text in MALFORMED:
            self.assertIsNone(read_frame(text))

    def test_in_each_lane(self):
        for graph in (chain_graph(2), ring_graph(3)):
            net, twin = Net(graph), Net(graph)
            chance = random.Random(3)
            for at in range(300):
                if at == 150:
                    net.offer(forwarding(graph))
                    twin.offer(forwarding(graph))
                if at > 200:
                    net.inject(1, (0, 2, 0))
                    twin.inject(1, (0, 2, 0))
                net.tick()
                twin.tick()
                for end in net.lanes:
                    for _ in range(len(net.lanes[end].frames)):
                        # One comes in in front of each other frame.
                        net.lanes[end].put(chance.choice(MALFORMED))
                        net.lanes[end].hasten(len(net.lanes[end].frames) - 1)
                        self.assertTrue(net.deliver(end))
                        self.assertEqual(net.deliver(end), twin.deliver(end))
                    self.assertEqual(self.seen_of(net), self.seen_of(twin))
            self.assertEqual((net.brain.stage.now, len(net.events) > 100), (1, True))
            for switch in net.agents:
                self.assertGreater(net.agents[switch].dropped, twin.agents[switch].dropped)

    def test_each_one_is_dropped(self):
        net = Net(chain_graph(2))
        before = self.seen_of(net)
        for many, text in enumerate(MALFORMED, start=1):
            for end in net.lanes:
                net.lanes[end].put(text)
                self.assertTrue(net.deliver(end))
            self.assertEqual(self.seen_of(net), before)
            # Two lanes lead to the switch 1, and one to the switch 2.
            self.assertEqual([agent.dropped for agent in net.agents.values()], [2 * many, many])

    def test_frames_that_the_controller_does_not_take(self):
        # They are right, but no segments to it from a switch that it has a line with.
        net = WatchedNet(chain_graph(2))
        left_alone(net)
        before = self.seen_of(net)
        done = ("data", 0, "done 1 0")
        for frame in (("datum", 1, 12, 1, (0, 0, 0)), ("probe", (1, 1), 4, None), ("probe", (1, 2), 4, (2, 1)),
                      ("segment", 2, 1, 12, 1, *done), ("segment", 0, 3, 12, 1, *done), ("segment", 0, 1, 12, 99, *done),
                      ("segment", 0, 0, 12, 1, "ack", 0, "")):
            self.assertIsNotNone(read_frame(write_frame(frame)))
            net.brain.hear(write_frame(frame))
            self.assertEqual(self.seen_of(net), before)


class Disturbed(unittest.TestCase):
    """Nets in which all kinds of steps are drawn; what must hold is checked behind each of them."""

    def run_one(self, chance, graph, steps):
        net = WatchedNet(graph)
        for _ in range(steps):
            disturb(net, chance)
            net.hold()
        net.check_judge()
        left_alone(net)
        net.check_settled()
        net.check_judge()
        return net

    def test_lines_rings_and_parallel_links(self):
        graphs = [chain_graph(count) for count in (1, 2, 3, 4)] + [ring_graph(3), ring_graph(4), twins(2), twins(6)]
        for seed, graph in enumerate(graphs * 3):
            with self.subTest(seed=seed):
                self.run_one(random.Random(seed), graph, 250)

    def test_drawn_graphs(self):
        for seed in range(24):
            chance = random.Random(seed)
            with self.subTest(seed=seed):
                self.run_one(chance, random_graph(chance, chance.randrange(1, 9)), chance.randrange(50, 300))

    def test_all_kinds_of_things_happen(self):
        # So that the tests above are not right only because nothing happens in them.
        net = self.run_one(random.Random(7), ring_graph(4), 1500)
        self.assertGreater(net.brain.stage.now, 5)
        self.assertGreater(len(net.events), 30)
        self.assertGreater(max(agent.guest.boot for agent in net.agents.values()), 3)
        self.assertGreater(len(net.obeyed), 20)
        self.assertGreater(net.brain.epoch, 20)


class Mending(unittest.TestCase):
    """Point 37, at just as many rounds as it tells."""

    def assertMends(self, net):
        for link in list(net.cuts):
            net.cut(link, False)
        for _ in range(1000 + 500 * net.graph[1]):
            net.round()
        net.check_settled()
        net.check_judge()

    def test_from_the_beginning(self):
        for graph in (chain_graph(1), ring_graph(3), random_graph(random.Random(1), 6)):
            self.assertMends(WatchedNet(graph))

    def test_each_disturbance(self):
        graph = ring_graph(3)
        for name, steps in {
            "all lost": lambda net: [lane.clear() for lane in net.lanes.values()],
            "cut": lambda net: [net.cut(link, True) for link in graph[2]],
            "switches": lambda net: [net.reboot(switch) for switch in (2, 1, 3)],
            "controller": lambda net: net.restart(),
            "policy": lambda net: net.offer(forwarding(graph)),
            "all": lambda net: [net.reboot(2), net.restart(), net.cut(graph[2][0], True), net.offer(forwarding(graph))],
        }.items():
            with self.subTest(name):
                net = WatchedNet(graph)
                net.offer(forwarding(graph))
                left_alone(net)
                steps(net)
                for _ in range(9):
                    net.tick()
                self.assertMends(net)

    def test_long_rows_with_many_rules(self):
        for count, data in ((8, 1), (5, 6)):
            graph = chain_graph(count)
            net = WatchedNet(graph)
            net.offer(ruled(count, 30))
            left_alone(net)
            for switch in range(2, count + 1):
                net.reboot(switch)
            net.restart()
            for at in range(1000 + 500 * count):
                for kind in range(data):
                    if at % 20 == 0:
                        net.inject(1, (0, at % 15, kind % 2))
                net.round()
            net.check_settled()
            net.check_judge()
            self.assertEqual({len(rows) for rows in net.rules[1].values()}, {30})
            # Those of the last rounds went through the whole row.
            for _ in range(20):
                net.round()
            self.assertEqual([event[0] for event in net.events if event[3] == net.events[-1][3]],
                             list(range(1, count + 1)))

    def test_a_switch_that_cannot_be_reached_does_not_hold_up_a_policy(self):
        net = WatchedNet(chain_graph(3))
        left_alone(net)
        net.cut(((2, 2), (3, 1)), True)
        net.offer(forwarding(chain_graph(3)))
        for _ in range(300):
            net.round()
        self.assertEqual((net.brain.stage.now, net.brain.present(), net.agents[3].table.tag), (1, [1, 2], 0))
        self.assertMends(net)


class Keeping(unittest.TestCase):
    """Point 45, where it would be broken most easily."""

    def test_the_controller_begins_anew_at_each_tick_of_a_change(self):
        graph = ring_graph(3)
        for at in range(0, 60, 2):
            net = WatchedNet(graph)
            net.offer(forwarding(graph))
            left_alone(net)
            net.offer(ruled(3, 12))
            for _ in range(at):
                net.round()
            net.restart()
            for _ in range(300):
                net.round()
                # Whatever is done, all three have a tag; WatchedNet checks their rules.
                self.assertNotIn(0, [agent.table.tag for agent in net.agents.values()])
            net.check_settled()

    def test_a_switch_that_was_away_while_versions_changed(self):
        graph = chain_graph(3)
        net = WatchedNet(graph)
        net.offer(forwarding(graph))
        left_alone(net)
        net.cut(graph[2][1], True)
        for _ in range(4):
            net.offer(ruled(3, 20))
            for _ in range(150):
                net.round()
        self.assertEqual((net.brain.stage.now, net.agents[3].table.tag), (5, 1))
        net.cut(graph[2][1], False)
        tags = []
        for _ in range(300):
            net.round()
            tags.append(net.agents[3].table.tag)
        self.assertEqual(sorted(set(tags)), [1, 5])
        net.check_settled()

    def test_data_go_on_while_the_rest_is_cut_off(self):
        graph = chain_graph(3)
        net = WatchedNet(graph)
        net.offer(forwarding(graph))
        left_alone(net)
        net.cut(graph[2][0], True)
        for _ in range(500):
            net.round()
        self.assertEqual(net.brain.present(), [1])
        number = net.inject(2, (0, 3, 0))
        for _ in range(3):
            net.round()
        told = [event for event in net.events if event[3] == number]
        self.assertEqual([event[0] for event in told], [2, 3])
        self.assertEqual(told[-1][5], [(0, (0, 3, 0))])


if __name__ == "__main__":
    unittest.main()
