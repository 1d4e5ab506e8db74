"""From one policy to another (points 78 to 80)."""

import copy
import itertools
import random
import unittest

from hangbridge.asking import steps
from hangbridge.errors import StateError
from hangbridge.rollout import Rollout
from tests.net_samples import chain_graph, random_graph, ring_graph
from tests.policy_samples import Drawing

H = (1, 2, 3)
PAIR = chain_graph(2)
ROW = chain_graph(3)
STOP = ("sum", [])
DEEDS = ("install", "turn", "remove")


def at(switch, port):
    return ("seq", [("test", ("is", "switch", switch)), ("set", "port", port)])


# Through the row and out at its end; out at once; and to both sides, with a header changed on the one.
ONWARD = ("sum", [at(1, 2), at(2, 2), at(3, 0)])
OUT = ("set", "port", 0)
SPREAD = ("sum", [("seq", [("set", "kind", 9), ("set", "port", 1)]), ("set", "port", 2)])


def done(graph, old, new, *deeds):
    """Return a net in which some deeds are done at all switches."""
    net = Rollout(graph, old, new)
    for deed in deeds:
        for switch in range(1, graph[1] + 1):
            net.perform(deed, switch)
    return net


def state(net):
    """Return all that can be seen of a net of up to three switches."""
    return copy.deepcopy((net.flying, net.told, [net.has(switch, version) for switch in (1, 2, 3) for version in (0, 1)],
                          [net.may(deed, switch) for deed in DEEDS for switch in (1, 2, 3)]))


class Deeds(unittest.TestCase):
    def assertMay(self, net, deed, *switches):
        self.assertEqual([switch for switch in (1, 2, 3) if net.may(deed, switch)], list(switches))

    def assertRefused(self, net, deed, switch):
        before = state(net)
        self.assertIs(net.may(deed, switch), False)
        with self.assertRaises(StateError) as caught:
            net.perform(deed, switch)
        self.assertEqual(caught.exception.state, (deed, switch))
        self.assertEqual(state(net), before)

    def test_new(self):
        net = Rollout(ROW, ONWARD, OUT)
        self.assertEqual((net.flying, net.told), ([], []))
        self.assertEqual([net.has(switch, 0) for switch in (1, 2, 3)], [True] * 3)
        self.assertEqual([net.has(switch, 1) for switch in (1, 2, 3)], [False] * 3)
        self.assertMay(net, "install", 1, 2, 3)
        for deed in ("turn", "remove"):
            for switch in (1, 2, 3):
                self.assertRefused(net, deed, switch)

    def test_install(self):
        net = Rollout(ROW, ONWARD, OUT)
        self.assertIs(net.may("install", 2), True)
        self.assertIsNone(net.perform("install", 2))
        self.assertEqual([net.has(switch, 1) for switch in (1, 2, 3)], [False, True, False])
        self.assertEqual([net.has(switch, 0) for switch in (1, 2, 3)], [True] * 3)
        self.assertMay(net, "install", 1, 3)
        self.assertRefused(net, "install", 2)

    def test_turn_when_all_have_the_new_rules(self):
        net = Rollout(ROW, ONWARD, OUT)
        for switch in (3, 1, 2):
            self.assertMay(net, "turn")
            self.assertRefused(net, "turn", 3)
            net.perform("install", switch)
        self.assertMay(net, "turn", 1, 2, 3)
        net.perform("turn", 2)
        self.assertMay(net, "turn", 1, 3)
        self.assertRefused(net, "turn", 2)
        self.assertRefused(net, "install", 2)

    def test_remove_when_all_are_turned(self):
        net = done(ROW, ONWARD, OUT, "install")
        for switch in (2, 3, 1):
            self.assertMay(net, "remove")
            self.assertRefused(net, "remove", 2)
            net.perform("turn", switch)
        self.assertMay(net, "remove", 1, 2, 3)
        net.perform("remove", 3)
        self.assertEqual([net.has(switch, 0) for switch in (1, 2, 3)], [True, True, False])
        self.assertEqual([net.has(switch, 1) for switch in (1, 2, 3)], [True] * 3)
        self.assertMay(net, "remove", 1, 2)
        self.assertRefused(net, "remove", 3)

    def test_remove_when_nothing_old_is_flying(self):
        net = done(ROW, ONWARD, ONWARD, "install")
        net.enter(1, 0, H)
        for switch in (1, 2, 3):
            net.perform("turn", switch)
        net.enter(1, 0, H)
        for _ in range(3):
            self.assertMay(net, "remove")
            self.assertRefused(net, "remove", 1)
            self.assertEqual(net.flying[0][:2], (0, 0))
            net.move(0)
            # The new one waits, and the old one flies on behind it.
            net.flying.sort()
        self.assertEqual(net.flying, [(1, 1, (1, 0, H))])
        self.assertMay(net, "remove", 1, 2, 3)

    def test_one_switch(self):
        net = Rollout(("graph", 1, []), OUT, STOP)
        for deed in DEEDS:
            self.assertTrue(net.may(deed, 1))
            net.perform(deed, 1)
            self.assertRefused(net, deed, 1)
        self.assertEqual((net.has(1, 0), net.has(1, 1)), (False, True))

    def test_each_once_at_each_switch(self):
        net = done(ROW, ONWARD, OUT, *DEEDS)
        for deed in DEEDS:
            for switch in (1, 2, 3):
                self.assertRefused(net, deed, switch)

    def test_other_deeds_switches_and_versions(self):
        net = Rollout(PAIR, ONWARD, OUT)
        self.assertRefused(net, "drop", 1)
        self.assertRefused(net, "install", 3)
        self.assertRefused(net, "install", 0)
        self.assertEqual([net.has(1, version) for version in (-1, 2, 3)], [False] * 3)
        self.assertEqual([net.has(switch, version) for switch in (0, 3) for version in (0, 1)], [False] * 4)


class Moves(unittest.TestCase):
    def test_numbers_and_versions(self):
        net = done(PAIR, ONWARD, OUT, "install")
        self.assertEqual([net.enter(1, 0, H), net.enter(2, 5, (0, 0, 0))], [0, 1])
        net.perform("turn", 2)
        self.assertEqual([net.enter(1, 0, H), net.enter(2, 0, H)], [2, 3])
        self.assertEqual(net.flying, [(0, 0, (1, 0, H)), (1, 0, (2, 5, (0, 0, 0))), (2, 0, (1, 0, H)), (3, 1, (2, 0, H))])
        self.assertEqual(net.told, [])

    def test_a_version_is_kept(self):
        net = done(ROW, ONWARD, OUT, "install")
        net.enter(1, 0, H)
        for switch in (1, 2, 3):
            net.perform("turn", switch)
        for place in ((2, 1, H), (3, 1, H)):
            net.move(0)
            self.assertEqual(net.flying, [(0, 0, place)])
        net.move(0)
        self.assertEqual((net.flying, net.told), ([], [(0, 0, "out", 3, H)]))

    def test_the_new_version(self):
        net = done(ROW, ONWARD, OUT, "install", "turn")
        net.enter(1, 0, H)
        self.assertIsNone(net.move(0))
        self.assertEqual((net.flying, net.told), ([], [(0, 1, "out", 1, H)]))

    def test_each_index(self):
        for index in range(3):
            net = Rollout(ROW, ONWARD, OUT)
            for switch in (1, 2, 3):
                net.enter(switch, 0, H)
            net.move(index)
            rest = [(at, 0, (at + 1, 0, H)) for at in range(3) if at != index]
            behind = [[(0, 0, (2, 1, H))], [(1, 0, (3, 1, H))], []][index]
            self.assertEqual(net.flying, rest + behind)
            self.assertEqual(net.told, [(2, 0, "out", 3, H)] if index == 2 else [])

    def test_an_index_that_is_none(self):
        net = Rollout(ROW, ONWARD, OUT)
        for many in range(3):
            for index in (many, many + 1, 100, -1, -2):
                before = state(net)
                with self.assertRaises(StateError) as caught:
                    net.move(index)
                self.assertEqual((caught.exception.state, state(net)), (index, before))
            net.enter(1, 0, H)

    def test_order(self):
        # In the middle of the row: to both sides; and a datum that was there before stays in front.
        net = Rollout(ROW, SPREAD, STOP)
        net.enter(2, 0, H)
        net.enter(3, 0, H)
        net.move(0)
        self.assertEqual(net.flying, [(1, 0, (3, 0, H)), (0, 0, (1, 2, (1, 2, 9))), (0, 0, (3, 1, H))])
        net.move(0)
        self.assertEqual(net.flying, [(0, 0, (1, 2, (1, 2, 9))), (0, 0, (3, 1, H)), (1, 0, (2, 2, (1, 2, 9)))])
        self.assertEqual(net.told, [(1, 0, "lost", (3, 2), H)])
        net.move(1)
        self.assertEqual(net.told[1:], [(0, 0, "lost", (3, 2), H)])
        self.assertEqual(net.flying[1:], [(1, 0, (2, 2, (1, 2, 9))), (0, 0, (2, 2, (1, 2, 9)))])

    def test_order_of_what_is_told(self):
        policy = ("sum", [("set", "port", 5), ("set", "port", 0), ("seq", [("set", "kind", 0), ("set", "port", 5)])])
        net = Rollout(PAIR, policy, STOP)
        net.enter(1, 0, H)
        net.move(0)
        self.assertEqual(net.told, [(0, 0, "out", 1, H), (0, 0, "lost", (1, 5), (1, 2, 0)), (0, 0, "lost", (1, 5), H)])

    def test_nothing_is_done(self):
        net = Rollout(PAIR, STOP, OUT)
        net.enter(1, 0, H)
        net.move(0)
        self.assertEqual((net.flying, net.told), ([], []))

    def test_a_switch_without_the_rules(self):
        # As it may never be, it is put there by hand.
        net = Rollout(PAIR, OUT, OUT)
        net.flying.append((7, 1, (1, 0, H)))
        net.move(0)
        self.assertEqual((net.flying, net.told), ([], []))
        net = done(PAIR, OUT, OUT, *DEEDS)
        net.flying.append((7, 0, (2, 0, H)))
        net.flying.append((8, 1, (2, 0, H)))
        net.move(0)
        self.assertEqual((net.flying, net.told), ([(8, 1, (2, 0, H))], []))
        net.move(0)
        self.assertEqual(net.told, [(8, 1, "out", 2, H)])

    def test_data_before_and_behind_turning(self):
        net = Rollout(PAIR, ONWARD, OUT)
        versions = []
        for deed, switch in itertools.product(DEEDS, (1, 2)):
            net.perform(deed, switch)
            net.enter(1, 0, H)
            net.enter(2, 0, H)
            versions.append([row[1] for row in net.flying])
            while net.flying:
                net.move(0)
        self.assertEqual(versions, [[0, 0], [0, 0], [1, 0], [1, 1], [1, 1], [1, 1]])


class Whole(unittest.TestCase):
    """Point 80: what becomes of each datum is what one policy alone makes of it."""

    def alone(self, policy, graph, place):
        """Return what is told of a datum by one policy, sorted, or None if it flies on for too long."""
        flying, told = [place], []
        for _ in range(300):
            if not flying:
                return sorted(told)
            for row in steps(policy, graph, flying.pop()):
                if row[0] == "in":
                    flying.append(row[1])
                else:
                    told.append(row)
        return None

    def check(self, chance, graph, policies):
        net = Rollout(graph, *policies)
        switches = range(1, graph[1] + 1)
        entered = {}
        for _ in range(150):
            kind = chance.random()
            deed, switch = chance.choice(DEEDS), chance.choice(switches)
            if kind < 0.3 and len(entered) < 12:
                place = (switch, chance.randrange(3), (chance.randrange(2), 0, chance.randrange(2)))
                if None not in [self.alone(policy, graph, place) for policy in policies]:
                    entered[net.enter(*place)] = place
            elif kind < 0.6 and net.may(deed, switch):
                net.perform(deed, switch)
            elif net.flying:
                net.move(chance.randrange(len(net.flying)))
            for _, version, place in net.flying:
                self.assertTrue(net.has(place[0], version))
        while net.flying:
            net.move(chance.randrange(len(net.flying)))
        for deed, switch in itertools.product(DEEDS, switches):
            if net.may(deed, switch):
                net.perform(deed, switch)
            self.assertFalse(net.may(deed, switch))
            self.assertEqual((net.has(switch, 1)), True)
        versions = {}
        for number, version, *_ in net.told:
            self.assertEqual(versions.setdefault(number, version), version)
        for number, place in entered.items():
            told = sorted([row[2:] for row in net.told if row[0] == number])
            expected = [self.alone(policy, graph, place) for policy in policies]
            self.assertIn(told, expected if number not in versions else [expected[versions[number]]])
        return set(versions.values())

    def test_drawn(self):
        chance = random.Random(12)
        numbers = {"switch": [1, 2, 3], "port": [0, 1, 2, 6], "src": [0, 1], "kind": [0, 1]}
        drawing = Drawing(chance, numbers, ["port", "port", "src", "kind"])
        found = []
        for _ in range(120):
            graph = chance.choice([chain_graph(3), ring_graph(3), random_graph(chance, chance.randrange(1, 5))])
            policies = [chance.choice([drawing.policy(3), ONWARD, OUT, SPREAD]) for _ in range(2)]
            before = copy.deepcopy((graph, policies))
            found.append(self.check(chance, graph, policies))
            self.assertEqual((graph, policies), before)
        self.assertIn({0, 1}, found)

    def test_nets_share_nothing(self):
        one, other = Rollout(PAIR, OUT, STOP), Rollout(PAIR, OUT, STOP)
        one.perform("install", 1)
        one.enter(1, 0, H)
        one.enter(1, 0, H)
        one.move(0)
        self.assertEqual((other.flying, other.told, other.has(1, 1)), ([], [], False))
        self.assertEqual(other.enter(1, 0, H), 0)


if __name__ == "__main__":
    unittest.main()
