"""The judge (point 40), and that the events of a net never break a rule (point 41)."""

import copy
import random
import unittest

from hangbridge.judging import judge
from hangbridge.nets import Net
from hangbridge.policies import does
from tests.net_samples import disturb, forwarding, random_graph, ring_graph

# 1 and 2 are joined twice, and 2 and 3 once.
GRAPH = ("graph", 3, [((1, 2), (2, 1)), ((1, 3), (2, 3)), ((2, 2), (3, 1))])
HEADER = (1, 2, 3)
# What comes goes out at the port 2, and by the other policy at the ports 2 and 3.
ONE = ("set", "port", 2)
TWO = ("sum", [("set", "port", 2), ("set", "port", 3)])
# All goes back where it came from, but what comes in from outside, which goes out at the port 2; its kind is one more
# then, so that it is never where it was.
BACK = ("seq", [("sum", [("test", ("not", ("is", "port", 0))), ("seq", [("test", ("is", "port", 0)), ("set", "port", 2)])]),
                ("sum", [("seq", [("test", ("is", "kind", kind)), ("set", "kind", kind + 1)]) for kind in range(15)])])
POLICIES = {1: ONE, 2: TWO, 3: BACK}


def event(switch, port, version=1, number=1, header=HEADER, sent=None):
    """Return an event, at which by default is sent what the policy does."""
    if sent is None:
        sent = does(POLICIES[version], switch, port, header)
    return (switch, port, version, number, header, sent)


def plainly_judged(graph, policies, events):
    """Judge as the document says it, by all earlier events."""
    depths = []
    for index, (switch, port, version, number, header, sent) in enumerate(events):
        if not 1 <= switch <= graph[1] or version not in policies:
            return (1, index)
        if sent not in ([], does(policies[version], switch, port, header)):
            return (2, index)
        for earlier in events[:index]:
            if earlier[3] == number and (earlier[2] != version or port == 0):
                return (3, index)
        depth = 1 if port == 0 else None
        for earlier, told in zip(events[:index], depths):
            for out, changed in earlier[5]:
                link = tuple(sorted([(earlier[0], out), (switch, port)]))
                if port != 0 and link in graph[2] and changed == header and earlier[2:4] == (version, number):
                    depth = told + 1 if depth is None else min(depth, told + 1)
        if depth is None:
            return (4, index)
        if depth > 12:
            return (5, index)
        depths.append(depth)
    return None


def bouncing(many):
    """Return so many events of a datum that goes to and fro, the depth of each one more."""
    places = [(1, 0)] + [(2, 1) if at % 2 else (1, 2) for at in range(1, many)]
    return [event(switch, port, 3, header=(1, 2, at)) for at, (switch, port) in enumerate(places)]


class Judging(unittest.TestCase):
    def assertJudged(self, events, told):
        before = copy.deepcopy((GRAPH, POLICIES, events))
        self.assertEqual(judge(GRAPH, POLICIES, events), told)
        self.assertEqual((GRAPH, POLICIES, events), before)
        self.assertEqual(plainly_judged(GRAPH, POLICIES, events), told)

    def test_no_events(self):
        self.assertJudged([], None)
        self.assertIsNone(judge(("graph", 1, []), {}, []))

    def test_right(self):
        self.assertJudged([event(1, 0)], None)
        self.assertJudged([event(1, 0), event(2, 1), event(3, 1)], None)
        self.assertJudged([event(1, 0, sent=[])], None)
        self.assertJudged([event(3, 0), event(1, 0, 1, 2), event(2, 1, 1, 2)], None)

    def test_switches(self):
        for switch in (0, 4, 9, -1):
            self.assertJudged([event(1, 0), event(switch, 0, 1, 2, sent=[])], (1, 1))
        self.assertJudged([event(3, 0)], None)
        self.assertEqual(judge(("graph", 2, GRAPH[2][:2]), POLICIES, [event(3, 0)]), (1, 0))

    def test_versions(self):
        for version in (0, 4, 200):
            self.assertJudged([event(1, 0), (1, 0, version, 2, HEADER, [])], (1, 1))
        self.assertEqual(judge(GRAPH, {}, [event(1, 0)]), (1, 0))
        self.assertEqual(judge(GRAPH, {1: ONE}, [event(1, 0), event(1, 0, 2, 2)]), (1, 1))

    def test_sent(self):
        right = [(2, HEADER), (3, HEADER)]
        self.assertJudged([event(1, 0, 2, sent=right)], None)
        for sent in ([(2, HEADER)], [(3, HEADER)], [(2, HEADER), (3, (1, 2, 4))], [*right, (4, HEADER)], right[::-1],
                     [*right, right[1]], [(0, HEADER)]):
            self.assertJudged([event(1, 0, 2, sent=sent)], (2, 0))
        # A policy that does nothing there leaves no choice.
        self.assertEqual(judge(GRAPH, {1: ("sum", [])}, [event(1, 0, sent=[(2, HEADER)])]), (2, 0))
        self.assertEqual(judge(GRAPH, {1: ("sum", [])}, [event(1, 0, sent=[])]), None)

    def test_what_is_done_there(self):
        here = ("seq", [("test", ("all", [("is", "switch", 2), ("is", "port", 0), ("is", "dst", 2)])), ("set", "kind", 9),
                        ("set", "port", 2)])
        right = [(2, (1, 2, 9))]
        self.assertIsNone(judge(GRAPH, {1: here}, [event(2, 0, sent=right)]))
        self.assertEqual(judge(GRAPH, {1: here}, [event(1, 0, sent=right)]), (2, 0))
        self.assertEqual(judge(GRAPH, {1: here}, [event(2, 1, sent=right)]), (2, 0))
        self.assertEqual(judge(GRAPH, {1: here}, [event(2, 0, header=(1, 3, 3), sent=[(2, (1, 3, 9))])]), (2, 0))

    def test_one_number_with_two_versions(self):
        self.assertJudged([event(1, 0, 1), event(2, 1, 1), event(2, 1, 2)], (3, 2))
        # The version of an event that is not the last one with this number.
        self.assertJudged([event(1, 0, 1), event(1, 0, 2, 2), event(2, 1, 2, 1)], (3, 2))

    def test_one_number_that_comes_in_twice(self):
        self.assertJudged([event(1, 0), event(1, 0)], (3, 1))
        self.assertJudged([event(1, 0), event(2, 1), event(3, 0)], (3, 2))
        self.assertJudged([event(1, 0), event(2, 0, 2)], (3, 1))
        self.assertJudged([event(1, 0), event(1, 0, 1, 2), event(2, 0, 1, 3)], None)

    def test_doubled(self):
        # One that came in by a link may come there again.
        self.assertJudged([event(1, 0), event(2, 1), event(2, 1), event(3, 1), event(3, 1)], None)

    def test_no_depth(self):
        self.assertJudged([event(2, 1)], (4, 0))
        self.assertJudged([event(2, 1), event(1, 0)], (4, 0))
        rows = {
            "another number": event(2, 1, 1, 2), "another end": event(2, 3), "another header": event(2, 1, header=(1, 2, 4)),
            "the other direction": event(1, 2), "a port without a link": event(1, 5), "the wrong link": event(3, 1),
            "no port": event(2, 7),
        }
        for name, wrong in rows.items():
            with self.subTest(name):
                self.assertJudged([event(1, 0), wrong], (4, 1))

    def test_nothing_was_sent(self):
        self.assertJudged([event(1, 0, sent=[]), event(2, 1)], (4, 1))

    def test_sent_out_of_the_net(self):
        policies = {1: ("set", "port", 0)}
        self.assertIsNone(judge(GRAPH, policies, [event(1, 0, sent=[(0, HEADER)])]))
        self.assertEqual(judge(GRAPH, policies, [event(1, 0, sent=[(0, HEADER)]), event(2, 1, sent=[])]), (4, 1))

    def test_changed_headers(self):
        policies = {1: ("seq", [("set", "port", 2), ("set", "kind", 7)])}
        first = event(1, 0, sent=[(2, (1, 2, 7))])
        self.assertIsNone(judge(GRAPH, policies, [first, event(2, 1, header=(1, 2, 7), sent=[])]))
        self.assertEqual(judge(GRAPH, policies, [first, event(2, 1, sent=[])]), (4, 1))

    def test_depths(self):
        for many in (1, 2, 11, 12):
            self.assertJudged(bouncing(many), None)
        self.assertJudged(bouncing(13), (5, 12))
        self.assertJudged(bouncing(20), (5, 12))

    def test_twelve_and_thirteen(self):
        events = bouncing(13)
        self.assertEqual(events[-1], (1, 2, 3, 1, (1, 2, 12), [(2, (1, 2, 13))]))
        self.assertJudged(events[:12], None)
        self.assertJudged(events, (5, 12))
        # Other data do not make it less, and one of the first twelve may come again.
        self.assertJudged([event(1, 0, 3, 2, (1, 2, 11), []), *events], (5, 13))
        self.assertJudged([*events[:12], *events[5:12], events[12]], (5, 19))

    def test_the_least_depth_counts(self):
        # The kind goes from 0 to 11 step by step, and at once as well, so that it is one step from outside at least.
        far = [("seq", [("test", ("is", "kind", kind)), ("set", "kind", kind + 1)]) for kind in range(12)]
        near = ("seq", [("test", ("is", "kind", 0)), ("set", "kind", 11)])
        out = ("seq", [("sum", [("test", ("not", ("is", "port", 0))), ("set", "port", 2)]),
                       ("test", ("not", ("is", "port", 0)))])
        for parts, judged in (([*far, near], None), (far, (5, 12))):
            policies = {1: ("seq", [out, ("sum", parts)])}
            places = [(1, 0, 0)] + [(2, 1, kind) if kind % 2 else (1, 2, kind) for kind in range(1, 13)]
            events = [(switch, port, 1, 1, (0, 0, kind), does(policies[1], switch, port, (0, 0, kind)))
                      for switch, port, kind in places]
            self.assertEqual(judge(GRAPH, policies, events), judged)
            self.assertEqual(plainly_judged(GRAPH, policies, events), judged)

    def test_first_of_several_events(self):
        self.assertJudged([event(1, 0), event(9, 0, sent=[]), event(2, 1, 1, 5)], (1, 1))
        self.assertJudged([event(1, 0), event(2, 1, 1, 5), event(9, 0, sent=[])], (4, 1))
        self.assertJudged([event(1, 0), event(1, 0), event(1, 0, 1, 2, sent=[(9, HEADER)])], (3, 1))

    def test_first_of_several_rules(self):
        # Each wrong event breaks its rule and all behind it that it can.
        self.assertJudged([event(1, 0), (9, 1, 7, 1, HEADER, [(9, HEADER)])], (1, 1))
        self.assertJudged([event(1, 0), (1, 5, 7, 1, HEADER, [(9, HEADER)])], (1, 1))
        self.assertJudged([event(1, 0), (2, 5, 2, 1, HEADER, [(9, HEADER)])], (2, 1))
        self.assertJudged([event(1, 0), event(2, 5, 2, 1)], (3, 1))
        self.assertJudged([event(1, 0), event(1, 0, 1, 1, sent=[(9, HEADER)])], (2, 1))
        self.assertJudged([*bouncing(12), event(1, 5, 3)], (4, 12))

    def test_random(self):
        chance = random.Random(11)
        told = []
        for _ in range(400):
            events = []
            for _ in range(chance.randrange(12)):
                if events and chance.random() < 0.75:
                    switch, port, version, number, header, sent = chance.choice(events)
                    # Something that may well come from this one.
                    for link in GRAPH[2]:
                        for end, other in (link, link[::-1]):
                            if end == (switch, 2) and chance.random() < 0.9:
                                switch, port = other
                    events.append(event(switch, port, version, number, header, chance.choice([None, None, None, []])))
                else:
                    events.append(event(chance.randrange(1, 4), 0, chance.choice([1, 2, 3]), chance.randrange(1, 40)))
            told.append(judge(GRAPH, POLICIES, events))
            self.assertEqual(told[-1], plainly_judged(GRAPH, POLICIES, events))
        rules = {row and row[0] for row in told}
        self.assertLessEqual({None, 3, 4}, rules)


class OfNets(unittest.TestCase):
    def assertRight(self, net):
        self.assertIsNone(judge(net.graph, net.policies, net.events))
        self.assertIsNone(plainly_judged(net.graph, net.policies, net.events))

    def test_of_a_ring_with_new_policies_and_cuts(self):
        graph = ring_graph(4)
        net = Net(graph)
        chance = random.Random(5)
        for turn in range(400):
            if turn % 90 == 0 and not net.brain.stage.waits:
                net.offer(forwarding(graph) if turn % 180 else ("sum", [("set", "port", 2), ("set", "port", 6)]))
            if turn % 7 == 0:
                net.inject(chance.randrange(1, 5), (0, chance.randrange(6), 0))
            if turn % 50 == 0:
                net.cut(chance.choice(graph[2]), chance.random() < 0.5)
            lane = chance.choice(list(net.lanes.values()))
            chance.choice([lane.lose, lane.double, lane.hasten])(chance.randrange(2))
            net.round()
        self.assertGreater(len(net.events), 100)
        self.assertGreater(len({event[2] for event in net.events}), 1)
        self.assertRight(net)

    def test_data_that_go_round_for_ever(self):
        net = Net(ring_graph(3))
        net.offer(("sum", [("seq", [("test", ("is", "switch", switch)), ("set", "port", 6 if switch == 3 else 2)])
                           for switch in (1, 2, 3)]))
        while not net.settled():
            net.round()
        for switch in (1, 2, 3):
            net.inject(switch, HEADER)
        for _ in range(30):
            net.round()
        self.assertEqual(len(net.events), 36)
        self.assertRight(net)

    def test_random_nets(self):
        for seed in range(12):
            chance = random.Random(seed)
            net = Net(random_graph(chance, chance.randrange(1, 5)))
            for _ in range(300):
                disturb(net, chance)
            self.assertIsNone(judge(net.graph, net.policies, net.events))


if __name__ == "__main__":
    unittest.main()
