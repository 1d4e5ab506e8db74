"""The steps of a net, each by itself (point 34)."""

import copy
import unittest

from hangbridge.agents import Agent
from hangbridge.brains import Brain
from hangbridge.errors import PolicyError, RoomError, StateError
from hangbridge.frames import read_frame, write_frame
from hangbridge.lanes import Lane
from hangbridge.nets import Net

PAIR = ("graph", 2, [((1, 2), (2, 1))])
ROW = ("graph", 3, [((1, 2), (2, 1)), ((2, 2), (3, 1))])
RING = ("graph", 3, [((1, 2), (2, 1)), ((1, 6), (3, 6)), ((2, 2), (3, 1))])
LINK = ((1, 2), (2, 1))
STOP = ("sum", [])


def probe(origin, nonce=0, found=None):
    return write_frame(("probe", origin, nonce, found))


def datum(number, version=1, hops=12, header=(0, 0, 0)):
    return write_frame(("datum", version, hops, number, header))


def everywhere(port):
    """Return the policy by which data go out at a port of each switch."""
    return ("set", "port", port)


def settled(graph, policy=None):
    """Return a net that has settled, with a policy in its tables."""
    net = Net(graph)
    if policy is not None:
        net.offer(policy)
    for _ in range(1000):
        if net.settled():
            return net
        net.round()
    raise AssertionError("not settled")


def frames(net):
    """Return the dict from the lanes that are not empty to their frames."""
    return {end: list(lane.frames) for end, lane in net.lanes.items() if lane.frames}


def drain(net):
    """Lose all that is in lanes."""
    for lane in net.lanes.values():
        lane.clear()
    return net


class Told:
    """Notes with which arguments a function was called, and does what it does."""

    def __init__(self, calls, key, function):
        self.calls, self.key, self.function = calls, key, function

    def __call__(self, *given):
        self.calls.append((self.key, *given))
        return self.function(*given)


class NewNets(unittest.TestCase):
    def test_attributes(self):
        graph = copy.deepcopy(RING)
        net = Net(graph)
        self.assertEqual((net.graph, net.cuts, net.policies, net.events), (RING, {}, {}, []))
        self.assertEqual(list(net.lanes), [(0, 0), (1, 0), (1, 2), (1, 6), (2, 1), (2, 2), (3, 1), (3, 6)])
        self.assertEqual(list(net.agents), [1, 2, 3])
        for switch, agent in net.agents.items():
            self.assertIsInstance(agent, Agent)
            self.assertEqual((agent.guest.boot, agent.table.count(), list(agent.living)), (1, 0, [1, 2, 3, 4, 5, 6]))
        self.assertIsInstance(net.brain, Brain)
        self.assertEqual((net.brain.now, net.brain.phase, list(net.brain.lines)), (0, "rest", [1, 2, 3]))
        for lane in net.lanes.values():
            self.assertIsInstance(lane, Lane)
            self.assertEqual(lane.frames, [])
        self.assertEqual(graph, RING)

    def test_without_links(self):
        net = Net(("graph", 3, []))
        self.assertEqual((list(net.lanes), list(net.agents)), ([(0, 0), (1, 0)], [1, 2, 3]))

    def test_eight_switches(self):
        links = [((switch, 6), (switch + 1, 1)) for switch in range(1, 8)]
        net = Net(("graph", 8, links))
        self.assertEqual((len(net.agents), len(net.lanes), list(net.lanes)), (8, 16, sorted(net.lanes)))

    def test_nets_share_nothing(self):
        one, other = Net(PAIR), Net(PAIR)
        one.cut(LINK, True)
        for _ in range(10):
            one.round()
        self.assertEqual((other.cuts, other.brain.now, other.agents[1].living), ({}, 0, Net(PAIR).agents[1].living))
        self.assertEqual(one.graph, ("graph", 2, [((1, 2), (2, 1))]))


class Ticks(unittest.TestCase):
    def test_the_controller_then_the_switches_at_the_tick_before(self):
        net = Net(ROW)
        calls = []
        net.brain.tick = Told(calls, 0, net.brain.tick)
        for switch, agent in net.agents.items():
            agent.tick = Told(calls, switch, agent.tick)
        net.tick()
        net.tick()
        self.assertEqual(calls, [(0,), (1, 0), (2, 0), (3, 0), (0,), (1, 1), (2, 1), (3, 1)])
        self.assertEqual(net.brain.now, 2)

    def test_lanes_of_what_goes_out(self):
        net = Net(ROW)
        told = {1: [(0, "a"), (2, "b"), (1, "c")], 2: [(2, "d"), (1, "e"), (0, "f"), (2, "g")], 3: [(6, "h"), (1, "i")]}
        for switch, agent in net.agents.items():
            agent.tick = lambda now, pairs=told[switch]: pairs
        net.brain.tick = lambda: ["x", "y"]
        net.tick()
        # What goes out at the port 0 of others, and at ports without a link, is gone.
        self.assertEqual(frames(net), {(0, 0): ["x", "y"], (1, 0): ["a"], (1, 2): ["b"], (2, 2): ["d", "g"],
                                       (2, 1): ["e"], (3, 1): ["i"]})

    def test_behind_the_others(self):
        net = Net(PAIR)
        net.brain.tick = lambda: ["y"]
        net.lanes[0, 0].put("x")
        net.tick()
        self.assertEqual(net.lanes[0, 0].frames, ["x", "y"])

    def test_a_tick_delivers_nothing(self):
        net = Net(PAIR)
        net.tick()
        self.assertEqual(frames(net), {})
        net.tick()
        self.assertEqual([read_frame(text)[5] for text in frames(net)[0, 0]], ["hail"])
        net.tick()
        self.assertEqual(len(frames(net)[0, 0]), 1)
        self.assertEqual(list(frames(net)), [(0, 0)])


class Delivering(unittest.TestCase):
    def test_nothing_there(self):
        net = Net(PAIR)
        for end in net.lanes:
            self.assertIs(net.deliver(end), False)

    def test_no_such_lane(self):
        self.assertIs(Net(PAIR).deliver((1, 5)), False)
        self.assertIs(Net(PAIR).deliver((2, 0)), False)

    def test_the_first_frame_alone(self):
        net = Net(PAIR)
        for nonce in (1, 2):
            net.lanes[1, 2].put(probe((1, 2), nonce))
        self.assertIs(net.deliver((1, 2)), True)
        self.assertEqual(frames(net), {(1, 2): [probe((1, 2), 2)], (2, 1): [probe((1, 2), 1, (2, 1))]})

    def test_from_each_end_to_the_other_one(self):
        net = Net(RING)
        for link in RING[2]:
            for end, other in (link, link[::-1]):
                net.lanes[end].put(probe((4, 4)))
                self.assertTrue(net.deliver(end))
                # What goes back at the port tells where it came in.
                self.assertEqual(frames(net), {other: [probe((4, 4), 0, other)]})
                drain(net)

    def test_from_the_controller_to_the_port_0(self):
        net = Net(PAIR)
        calls = []
        net.agents[1].take = Told(calls, 1, net.agents[1].take)
        net.lanes[0, 0].put("x")
        self.assertTrue(net.deliver((0, 0)))
        self.assertEqual((calls, frames(net), net.agents[1].dropped), ([(1, 0, "x", 0)], {}, 1))

    def test_to_the_controller(self):
        net = Net(PAIR)
        calls = []
        net.brain.hear = Told(calls, 0, net.brain.hear)
        net.lanes[1, 0].put("x")
        self.assertTrue(net.deliver((1, 0)))
        self.assertEqual((calls, frames(net)), ([(0, "x")], {}))

    def test_at_the_tick_that_the_controller_has_now(self):
        net = Net(PAIR)
        calls = []
        for switch, agent in net.agents.items():
            agent.take = Told(calls, switch, agent.take)
        for _ in range(7):
            net.tick()
        drain(net)
        for end in ((1, 2), (2, 1), (0, 0)):
            net.lanes[end].put("x")
            net.deliver(end)
        self.assertEqual(calls, [(2, 1, "x", 7), (1, 2, "x", 7), (1, 0, "x", 7)])

    def test_what_goes_out_then(self):
        net = settled(ROW)
        drain(net)
        # A hail to the switch 3 goes through the whole row, and its answer back to the controller.
        net.lanes[0, 0].put(write_frame(("segment", 3, 0, 12, 99, "hail", 0, "")))
        for end in ((0, 0), (1, 2), (2, 2), (3, 1), (2, 1)):
            self.assertEqual(list(frames(net)), [end])
            self.assertTrue(net.deliver(end))
        answer = write_frame(("segment", 0, 3, 10, 99, "here", 1, ""))
        self.assertEqual(frames(net), {(1, 0): [answer]})

    def test_events(self):
        net = settled(ROW, everywhere(2))
        drain(net)
        net.lanes[1, 2].put(datum(5))
        net.deliver((1, 2))
        self.assertEqual(net.events, [(2, 1, 1, 5, (0, 0, 0), [(2, (0, 0, 0))])])
        net.deliver((2, 2))
        self.assertEqual(net.events[1:], [(3, 1, 1, 5, (0, 0, 0), [(2, (0, 0, 0))])])
        self.assertEqual(frames(net), {})


class Cutting(unittest.TestCase):
    def test_cut_and_healed(self):
        net = Net(RING)
        for end in net.lanes:
            net.lanes[end].put("x")
        self.assertIsNone(net.cut(LINK, True))
        self.assertEqual(list(net.cuts), [LINK])
        self.assertEqual(sorted(set(net.lanes) - set(frames(net))), [(1, 2), (2, 1)])
        self.assertEqual([sorted(net.agents[switch].living) for switch in (1, 2, 3)],
                         [[1, 3, 4, 5, 6], [2, 3, 4, 5, 6], [1, 2, 3, 4, 5, 6]])
        net.lanes[1, 2].put("y")
        net.lanes[2, 1].put("y")
        net.cut(LINK, False)
        self.assertEqual((net.cuts, net.lanes[1, 2].frames, net.lanes[2, 1].frames), ({}, [], []))
        self.assertEqual([sorted(net.agents[switch].living) for switch in (1, 2)], [[1, 2, 3, 4, 5, 6]] * 2)
        self.assertEqual(net.lanes[1, 6].frames, ["x"])

    def test_nothing_if_it_is_so(self):
        net = Net(PAIR)
        net.lanes[1, 2].put("x")
        net.cut(LINK, False)
        self.assertEqual((frames(net), net.cuts), ({(1, 2): ["x"]}, {}))
        net.cut(LINK, True)
        net.lanes[1, 2].put("x")
        calls = []
        for switch, agent in net.agents.items():
            agent.turn = Told(calls, switch, agent.turn)
        net.cut(LINK, True)
        self.assertEqual((frames(net), list(net.cuts), calls), ({(1, 2): ["x"]}, [LINK], []))
        net.cut(((1, 3), (2, 3)), True)
        self.assertEqual((frames(net), list(net.cuts), calls), ({(1, 2): ["x"]}, [LINK], []))

    def test_first_the_port_of_the_first_end(self):
        net = Net(PAIR)
        calls = []
        for switch, agent in net.agents.items():
            agent.turn = Told(calls, switch, agent.turn)
        net.cut(LINK, True)
        net.cut(LINK, False)
        self.assertEqual(calls, [(1, 2, False), (2, 1, False), (1, 2, True), (2, 1, True)])

    def test_frames_through_a_cut_link(self):
        net = Net(PAIR)
        net.cut(LINK, True)
        # Nothing goes out at its ports, and what is put there all the same is dropped.
        net.agents[1].table.add(1, (None, None, None, None), [(2, (None, None, None))])
        net.agents[1].table.retag(1, 1)
        net.inject(1, (0, 0, 0))
        self.assertEqual((len(net.events), frames(net)), (1, {}))
        net.lanes[1, 2].put(probe((1, 2)))
        self.assertTrue(net.deliver((1, 2)))
        self.assertEqual((net.agents[2].dropped, frames(net)), (1, {}))
        net.cut(LINK, False)
        net.inject(1, (0, 0, 0))
        self.assertEqual(list(frames(net)), [(1, 2)])

    def test_the_controller_is_told(self):
        net = settled(RING)
        net.cut(((2, 2), (3, 1)), True)
        links = net.brain.seen.links()
        for _ in range(8):
            net.round()
        self.assertEqual(net.brain.seen.links(), [link for link in links if link != ((2, 2), (3, 1))])

    def test_several(self):
        net = Net(RING)
        for link in RING[2][::-1]:
            net.cut(link, True)
        self.assertEqual(sorted(net.cuts), RING[2])
        net.cut(RING[2][1], False)
        self.assertEqual(sorted(net.cuts), [RING[2][0], RING[2][2]])
        self.assertEqual([sorted(net.agents[switch].living) for switch in (1, 2, 3)],
                         [[1, 3, 4, 5, 6], [3, 4, 5, 6], [2, 3, 4, 5, 6]])


class BeginningAnew(unittest.TestCase):
    def test_a_switch(self):
        net = settled(ROW, everywhere(2))
        drain(net)
        old = net.agents[2]
        others = {switch: net.agents[switch] for switch in (1, 3)}
        net.lanes[1, 2].put("x")
        self.assertIsNone(net.reboot(2))
        agent = net.agents[2]
        self.assertIsNot(agent, old)
        self.assertEqual((agent.guest.boot, agent.guest.epoch, agent.uplink, agent.errors, agent.dropped),
                         (2, 0, 0, 0, 0))
        self.assertEqual((agent.table.tag, agent.table.ways, agent.table.rules), (0, {}, {}))
        self.assertEqual(sorted(agent.living), [1, 2, 3, 4, 5, 6])
        # Frames on their way, other switches and the controller stay as they are.
        self.assertEqual((frames(net), net.brain.present()), ({(1, 2): ["x"]}, [1, 2, 3]))
        for switch in others:
            self.assertIs(net.agents[switch], others[switch])
        self.assertEqual(list(net.agents), [1, 2, 3])
        net.reboot(2)
        net.reboot(1)
        self.assertEqual([agent.guest.boot for agent in net.agents.values()], [2, 3, 1])

    def test_it_is_a_switch_with_its_number(self):
        net = Net(PAIR)
        net.reboot(2)
        net.lanes[1, 2].put(probe((1, 2)))
        net.deliver((1, 2))
        self.assertEqual(frames(net), {(2, 1): [probe((1, 2), 0, (2, 1))]})

    def test_with_cut_links(self):
        net = Net(RING)
        net.cut(LINK, True)
        net.cut(((1, 6), (3, 6)), True)
        for switch, living in ((1, [1, 3, 4, 5]), (2, [2, 3, 4, 5, 6]), (3, [1, 2, 3, 4, 5])):
            net.reboot(switch)
            self.assertEqual(sorted(net.agents[switch].living), living)
            self.assertEqual(net.agents[switch].errors, 0)
        net.cut(LINK, False)
        self.assertEqual(sorted(net.agents[1].living), [1, 2, 3, 4, 5])

    def test_the_controller(self):
        net = settled(RING, everywhere(2))
        net.cut(LINK, True)
        net.lanes[1, 2].put("x")
        before = frames(net)
        brain = net.brain
        self.assertIsNone(net.restart())
        self.assertIsNot(net.brain, brain)
        self.assertEqual((net.brain.now, net.brain.epoch), (brain.now, brain.epoch))
        self.assertIs(net.brain.stage, brain.stage)
        self.assertEqual((net.brain.seen.links(), net.brain.present(), net.brain.parents, net.brain.phase),
                         ([], [], {}, "rest"))
        self.assertEqual([line.state for line in net.brain.lines.values()], ["none"] * 3)
        self.assertEqual((frames(net), list(net.cuts)), (before, [LINK]))
        self.assertEqual([agent.table.tag for agent in net.agents.values()], [1, 1, 1])

    def restarted_in(self, phase):
        """Return a net in which the controller has begun anew in a phase, and the controller that it had."""
        net = Net(PAIR)
        net.offer(everywhere(2))
        # So that the phases "mend" and "fill" come, too, the tables are not as they should be.
        net.brain.stage.settle()
        net.offer(everywhere(1))
        for agent in net.agents.values():
            agent.table.keep = lambda version, count: False
        for _ in range(2000):
            if net.brain.phase == phase and (phase != "rest" or net.brain.present() == [1, 2]):
                break
            net.round()
        self.assertEqual(net.brain.phase, phase)
        brain = net.brain
        net.restart()
        return net, brain

    def test_the_controller_in_each_phase(self):
        for phase in ("rest", "lay", "hail", "check", "mend", "fill", "add", "tag", "drop"):
            with self.subTest(phase=phase):
                net, old = self.restarted_in(phase)
                brain = net.brain
                self.assertEqual((brain.now, brain.epoch, brain.phase), (old.now, old.epoch, "rest"))
                self.assertEqual((brain.present(), brain.laid, brain.parents, brain.seen.links()), ([], {}, {}, []))
                self.assertIs(brain.stage, old.stage)
                # Epochs and barriers are numbered on.
                barriers = []
                while not barriers:
                    net.tick()
                    self.assertLess(brain.now, old.now + 100)
                    texts = [read_frame(text)[-1] for text in net.lanes[0, 0].frames]
                    barriers = [int(text.split()[1]) for text in texts if text.startswith("barrier")]
                    while net.deliver((0, 0)) or net.deliver((1, 0)):
                        pass
                self.assertEqual(brain.lines[1].epoch, old.epoch + 1)
                self.assertEqual(barriers[0], old._barrier + 1)


    def test_a_switch_that_is_none(self):
        net = Net(PAIR)
        net.reboot(3)
        net.reboot(0)
        self.assertEqual([agent.guest.boot for agent in net.agents.values()], [1, 1])
        # A datum has a number all the same.
        self.assertEqual((net.inject(3, (0, 0, 0)), net.inject(1, (0, 0, 0))), (1, 2))
        self.assertEqual((net.agents[1].dropped, net.agents[2].dropped, net.events), (1, 0, []))


class Policies(unittest.TestCase):
    def test_offered(self):
        net = Net(PAIR)
        policies = [everywhere(port) for port in (1, 2, 3)]
        for version, policy in enumerate(policies, start=1):
            self.assertEqual(net.offer(policy), version)
            self.assertEqual((net.brain.stage.waits, net.brain.stage.policy(version)), (version, policy))
            net.brain.stage.settle()
        # All that were taken are kept, in the order of their versions.
        self.assertEqual(list(net.policies.items()), [(1, policies[0]), (2, policies[1]), (3, policies[2])])

    def test_refused(self):
        net = Net(PAIR)
        many = ("seq", [("set", "port", 1), ("sum", [("set", "src", number) for number in range(9)])])
        for policy, error in ((("set", "port", 7), PolicyError), (("set", "switch", 1), PolicyError),
                              (many, RoomError)):
            with self.assertRaises(error):
                net.offer(policy)
            self.assertEqual((net.policies, net.brain.stage.waits), ({}, 0))
        net.offer(STOP)
        with self.assertRaises(StateError) as caught:
            net.offer(STOP)
        self.assertEqual((caught.exception.state, net.policies), ("waits", {1: STOP}))

    def test_nothing_is_sent_at_once(self):
        net = settled(PAIR)
        drain(net)
        net.offer(everywhere(2))
        self.assertEqual((frames(net), net.brain.phase), ({}, "rest"))

    def test_kept_when_the_controller_begins_anew(self):
        net = settled(PAIR, everywhere(2))
        net.restart()
        self.assertEqual(net.policies, {1: everywhere(2)})
        self.assertEqual(net.offer(STOP), 2)


class Data(unittest.TestCase):
    def test_numbers(self):
        net = settled(PAIR, everywhere(2))
        self.assertEqual([net.inject(1, (1, 2, 3)), net.inject(2, (1, 2, 3)), net.inject(1, (1, 2, 3))], [1, 2, 3])
        self.assertEqual([event[3] for event in net.events], [1, 2, 3])
        net.restart()
        net.reboot(1)
        self.assertEqual(net.inject(1, (1, 2, 3)), 4)

    def test_a_switch_without_a_tag(self):
        net = Net(PAIR)
        self.assertEqual((net.inject(1, (0, 0, 0)), net.inject(1, (0, 0, 0))), (1, 2))
        self.assertEqual((net.events, frames(net), net.agents[1].dropped), ([], {}, 2))

    def test_what_comes_in(self):
        net = settled(ROW, everywhere(2))
        drain(net)
        self.assertEqual(net.inject(2, (4, 5, 6)), 1)
        self.assertEqual(net.events, [(2, 0, 1, 1, (4, 5, 6), [(2, (4, 5, 6))])])
        # It had 12 hops, and has one less now.
        self.assertEqual(frames(net), {(2, 2): [datum(1, 1, 11, (4, 5, 6))]})

    def test_twelve_switches_at_most(self):
        net = settled(PAIR, ("sum", [("seq", [("test", ("is", "switch", switch)), ("set", "port", 3 - switch)])
                                     for switch in (1, 2)]))
        drain(net)
        net.inject(1, (0, 0, 0))
        for _ in range(20):
            net.deliver((1, 2))
            net.deliver((2, 1))
        self.assertEqual([event[0] for event in net.events], [1, 2] * 6)
        self.assertEqual(frames(net), {})


class Rounds(unittest.TestCase):
    def test_lane_by_lane(self):
        net = Net(RING)
        calls = []
        net.deliver = Told(calls, "deliver", net.deliver)
        net.tick = Told(calls, "tick", net.tick)
        for end in ((3, 6), (1, 2), (2, 2), (1, 0), (1, 2)):
            net.lanes[end].put("x")
        net.brain.tick = lambda: ["x"]
        net.round()
        self.assertEqual(calls, [("tick",)] + [("deliver", end) for end in
                                               ((0, 0), (1, 0), (1, 2), (1, 2), (2, 2), (3, 6))])
        self.assertEqual(frames(net), {})

    def test_frames_that_arise(self):
        net = Net(PAIR)
        net.lanes[1, 2].put(probe((1, 2), 1))
        net.lanes[2, 1].put(probe((2, 1), 2))
        net.round()
        # Both were delivered; their answers, behind them or in front of them, were not.
        self.assertEqual(frames(net), {(2, 1): [probe((1, 2), 1, (2, 1))], (1, 2): [probe((2, 1), 2, (1, 2))]})

    def test_frames_that_arise_in_a_lane_that_is_still_to_come(self):
        net = Net(PAIR)
        for nonce in (1, 2, 3):
            net.lanes[1, 2].put(probe((1, 2), nonce))
        net.lanes[2, 1].put("x")
        net.round()
        # Of the lane (2, 1), in which there are four by then, just one is delivered.
        self.assertEqual(frames(net), {(2, 1): [probe((1, 2), nonce, (2, 1)) for nonce in (1, 2, 3)]})
        self.assertEqual(net.agents[1].dropped, 1)

    def test_frames_of_the_tick(self):
        net = Net(PAIR)
        net.tick()
        net.round()
        # The hail that the tick has put there has come, and its answer waits.
        self.assertEqual([(end, read_frame(texts[0])[5]) for end, texts in frames(net).items()], [((1, 0), "here")])
        self.assertEqual(net.brain.now, 2)


class Settled(unittest.TestCase):
    def test_one_switch(self):
        net = Net(("graph", 1, []))
        seen = []
        for _ in range(12):
            seen.append(net.settled())
            net.round()
        self.assertEqual(seen, sorted(seen))
        self.assertIs(seen[0], False)
        self.assertIs(net.settled(), True)

    def test_what_it_takes(self):
        net = settled(PAIR)
        self.assertIs(net.settled(), True)
        net.offer(STOP)
        self.assertIs(net.settled(), False)
        while not net.settled():
            net.round()
        self.assertEqual((net.brain.stage.now, net.brain.present()), (1, [1, 2]))
        net.brain.phase = "add"
        self.assertIs(net.settled(), False)
        net.brain.phase = "rest"
        del net.brain.laid[2]
        self.assertIs(net.settled(), False)

    def test_switches_that_are_not_joined(self):
        net = Net(("graph", 2, []))
        for _ in range(100):
            net.round()
        self.assertEqual((net.brain.present(), net.brain.phase, net.settled()), ([1], "rest", False))


if __name__ == "__main__":
    unittest.main()
