"""Counters of data, and cuts (points 86 to 89)."""

import copy
import random
import unittest

from hangbridge.cuts import Counting, balance, parted, perform
from hangbridge.errors import StateError
from hangbridge.graphs import peer
from tests.net_samples import chain_graph, random_graph, ring_graph, twins

ALONE = ("graph", 1, [])
APART = ("graph", 3, [((1, 2), (2, 1))])
PAIR = chain_graph(2)
RING = ring_graph(3)
MARK = ("mark",)


def state(net):
    """Return all that can be seen of switches."""
    return copy.deepcopy((net.held, net.came, net.left, net.lanes, net.is_done()))


def done(graph, *deeds):
    """Return switches behind some deeds."""
    net = Counting(graph)
    for deed in deeds:
        perform(net, deed)
    return net


def only(graph, **numbers):
    """Return the dict from switches to dicts of numbers, with those of the switches s1, s2 and so on."""
    return {switch: numbers.get(f"s{switch}", {}) for switch in range(1, graph[1] + 1)}


class Refusing(unittest.TestCase):
    def assertRefused(self, net, deed, told):
        before = state(net)
        with self.assertRaises(StateError) as caught:
            perform(net, deed)
        self.assertEqual(caught.exception.state, told)
        self.assertEqual(state(net), before)


class Deeds(Refusing):
    def test_new(self):
        net = Counting(RING)
        self.assertEqual((net.held, net.came, net.left), (only(RING), only(RING), only(RING)))
        self.assertEqual(net.lanes, {end: [] for link in RING[2] for end in link})
        self.assertIs(net.is_done(), False)
        self.assertEqual(Counting(ALONE).lanes, {})

    def test_enter(self):
        net = Counting(PAIR)
        self.assertIsNone(net.enter(1, "a"))
        net.enter(1, "a")
        net.enter(1, "b")
        net.enter(2, "")
        self.assertEqual(net.held, {1: {"a": 2, "b": 1}, 2: {"": 1}})
        self.assertEqual((net.came, net.left), (net.held, only(PAIR)))

    def test_leave(self):
        net = done(PAIR, ("enter", 1, "a"), ("enter", 1, "a"))
        self.assertIsNone(net.leave(1, "a"))
        self.assertEqual((net.held, net.came, net.left), (only(PAIR, s1={"a": 1}), only(PAIR, s1={"a": 2}),
                                                          only(PAIR, s1={"a": 1})))
        net.leave(1, "a")
        self.assertEqual((net.held, net.came, net.left), (only(PAIR), only(PAIR, s1={"a": 2}), only(PAIR, s1={"a": 2})))
        self.assertRefused(net, ("leave", 1, "a"), (1, "a"))

    def test_leave_what_is_not_there(self):
        net = done(PAIR, ("enter", 1, "a"))
        self.assertRefused(net, ("leave", 1, "b"), (1, "b"))
        self.assertRefused(net, ("leave", 2, "a"), (2, "a"))
        self.assertRefused(net, ("leave", 3, "a"), (3, "a"))

    def test_send_and_deliver(self):
        net = done(PAIR, *[("enter", 1, kind) for kind in "aab"])
        self.assertIsNone(net.send((1, 2), "a"))
        net.send((1, 2), "b")
        net.send((1, 2), "a")
        self.assertEqual((net.held, net.lanes), (only(PAIR), {(1, 2): ["a", "b", "a"], (2, 1): []}))
        self.assertIsNone(net.deliver((1, 2)))
        self.assertEqual((net.held, net.lanes), (only(PAIR, s2={"a": 1}), {(1, 2): ["b", "a"], (2, 1): []}))
        net.deliver((1, 2))
        net.deliver((1, 2))
        self.assertEqual((net.held, net.lanes), (only(PAIR, s2={"a": 2, "b": 1}), {(1, 2): [], (2, 1): []}))
        # What goes over links neither comes in nor leaves.
        self.assertEqual((net.came, net.left), (only(PAIR, s1={"a": 2, "b": 1}), only(PAIR)))
        net.send((2, 1), "b")
        net.deliver((2, 1))
        self.assertEqual(net.held, {1: {"b": 1}, 2: {"a": 2}})

    def test_send_what_is_not_there(self):
        net = done(PAIR, ("enter", 1, "a"))
        self.assertRefused(net, ("send", (1, 2), "b"), (1, "b"))
        self.assertRefused(net, ("send", (2, 1), "a"), (2, "a"))

    def test_no_lane(self):
        net = done(PAIR, ("enter", 1, "a"))
        for end in ((1, 1), (2, 2), (3, 1), (1, 0), (0, 0)):
            # Whether the switch holds it or not.
            for kind in "ab":
                self.assertRefused(net, ("send", end, kind), end)
            self.assertRefused(net, ("deliver", end), end)

    def test_nothing_to_deliver(self):
        net = done(PAIR, ("enter", 1, "a"), ("send", (1, 2), "a"))
        self.assertRefused(net, ("deliver", (2, 1)), (2, 1))
        net.deliver((1, 2))
        self.assertRefused(net, ("deliver", (1, 2)), (1, 2))

    def test_by_methods_as_well(self):
        for name, given, told in (("leave", (1, "a"), (1, "a")), ("send", ((1, 2), "a"), (1, "a")),
                                  ("send", ((1, 3), "a"), (1, 3)), ("deliver", ((1, 2),), (1, 2))):
            with self.assertRaises(StateError) as caught:
                getattr(Counting(PAIR), name)(*given)
            self.assertEqual(caught.exception.state, told)

    def test_lanes_of_parallel_links(self):
        net = done(twins(2), ("enter", 1, "a"), ("enter", 1, "b"), ("send", (1, 1), "a"), ("send", (1, 2), "b"))
        net.deliver((1, 2))
        self.assertEqual((net.held[2], net.lanes[1, 1]), ({"b": 1}, ["a"]))

    def test_graphs_are_not_kept_to_be_changed(self):
        graph = copy.deepcopy(RING)
        net = done(graph, ("enter", 1, "a"), ("send", (1, 2), "a"), ("start", 2))
        net.deliver((1, 2))
        self.assertEqual(graph, RING)


class Readings(Refusing):
    def test_one_switch(self):
        net = done(ALONE, ("enter", 1, "a"), ("enter", 1, "b"), ("leave", 1, "b"))
        self.assertIs(net.is_done(), False)
        self.assertIsNone(net.start(1))
        self.assertIs(net.is_done(), True)
        net.enter(1, "c")
        self.assertEqual(net.cut(), ({1: ({"a": 1}, {"a": 1, "b": 1}, {"b": 1})}, {}))

    def test_begun_twice(self):
        net = done(PAIR, ("start", 1))
        for switch in (1, 2):
            self.assertRefused(net, ("start", switch), switch)
        net.deliver((1, 2))
        net.deliver((2, 1))
        self.assertTrue(net.is_done())
        self.assertRefused(net, ("start", 2), 2)

    def test_marks(self):
        net = done(RING, ("enter", 1, "a"), ("send", (1, 6), "a"), ("start", 1))
        self.assertEqual({end: row for end, row in net.lanes.items() if row}, {(1, 2): [MARK], (1, 6): ["a", MARK]})
        net.deliver((1, 2))
        # The switch 2 is read; its marks go into each of its lanes, also back.
        self.assertEqual({end: row for end, row in net.lanes.items() if row},
                         {(1, 6): ["a", MARK], (2, 1): [MARK], (2, 2): [MARK]})
        net.deliver((2, 2))
        # So 3 is read before the mark of 1 comes, and has marks for both.
        self.assertEqual(net.lanes[3, 1] + net.lanes[3, 6], [MARK, MARK])
        for end in ((2, 1), (3, 1), (3, 6), (1, 6)):
            self.assertFalse(net.is_done())
            net.deliver(end)
        self.assertFalse(net.is_done())
        net.deliver((1, 6))
        self.assertTrue(net.is_done())
        # A switch that was read sends no marks again.
        self.assertEqual([row for row in net.lanes.values() if row], [])
        self.assertEqual(net.cut()[1], {**{end: [] for end in net.lanes}, (1, 6): ["a"]})

    def test_the_first_mark_by_each_lane(self):
        for end in ((1, 2), (3, 1)):
            net = done(RING, ("enter", 2, "x"), ("start", 1))
            if end == (3, 1):
                net.deliver((1, 6))
            net.deliver(end)
            self.assertEqual(net.lanes[2, 1] + net.lanes[2, 2], [MARK, MARK])
            net.leave(2, "x")
            while not net.is_done():
                for lane, row in net.lanes.items():
                    if row:
                        net.deliver(lane)
            self.assertEqual(net.cut()[0][2], ({"x": 1}, {"x": 1}, {}))

    def test_data_in_front_of_marks_and_behind(self):
        deeds = [("enter", 1, kind) for kind in "abc"] + [("enter", 2, kind) for kind in "xyz"]
        # a goes before 1 is read, b behind it; x comes to 1 before it is read, y is noted, z comes behind the mark.
        deeds += [("send", (1, 2), "a"), ("send", (2, 1), "x"), ("deliver", (2, 1)), ("start", 1), ("send", (1, 2), "b"),
                  ("send", (2, 1), "y"), ("deliver", (2, 1)), ("deliver", (1, 2)), ("deliver", (1, 2)),
                  ("deliver", (1, 2)), ("send", (2, 1), "z"), ("deliver", (2, 1)), ("deliver", (2, 1))]
        net = done(PAIR, *deeds)
        self.assertTrue(net.is_done())
        switches, lanes = net.cut()
        self.assertEqual(switches, {1: ({"b": 1, "c": 1, "x": 1}, {"a": 1, "b": 1, "c": 1}, {}),
                                    2: ({"z": 1, "a": 1}, {"x": 1, "y": 1, "z": 1}, {})})
        # The lane by which the first mark comes has nothing, though b came in by it later.
        self.assertEqual(lanes, {(1, 2): [], (2, 1): ["y"]})
        self.assertEqual(net.held, {1: {"c": 1, "x": 1, "y": 1, "z": 1}, 2: {"a": 1, "b": 1}})

    def test_order_in_lanes(self):
        deeds = [("enter", 2, kind) for kind in "yxzx"] + [("send", (2, 1), kind) for kind in "yxzx"]
        net = done(PAIR, *deeds, ("start", 1), ("deliver", (1, 2)), *[("deliver", (2, 1))] * 5)
        self.assertEqual(net.cut()[1], {(1, 2): [], (2, 1): ["y", "x", "z", "x"]})

    def test_parallel_links(self):
        net = done(twins(2), ("enter", 1, "a"), ("enter", 1, "b"), ("send", (1, 2), "a"), ("start", 1), ("send", (1, 2), "b"))
        net.deliver((1, 1))
        # The mark by one lane has come; what comes by the other one in front of its mark is noted.
        net.deliver((1, 2))
        net.deliver((1, 2))
        net.deliver((1, 2))
        net.deliver((2, 1))
        net.deliver((2, 2))
        self.assertEqual(net.cut(), ({1: ({"b": 1}, {"a": 1, "b": 1}, {}), 2: ({}, {}, {})},
                                     {(1, 1): [], (1, 2): ["a"], (2, 1): [], (2, 2): []}))

    def test_cut_before_it_is_done(self):
        net = Counting(PAIR)
        for deed in (None, ("start", 2), ("deliver", (2, 1))):
            if deed:
                perform(net, deed)
            with self.assertRaises(StateError) as caught:
                net.cut()
            self.assertEqual((caught.exception.state, net.is_done()), ("open", False))
        net.deliver((1, 2))
        self.assertEqual(net.cut(), ({1: ({}, {}, {}), 2: ({}, {}, {})}, {(1, 2): [], (2, 1): []}))

    def test_all_read_but_marks_on_their_way(self):
        net = done(RING, ("start", 1), ("deliver", (1, 2)), ("deliver", (1, 6)))
        self.assertIs(net.is_done(), False)
        for end in ((2, 1), (2, 2), (3, 1)):
            net.deliver(end)
            self.assertIs(net.is_done(), False)
        net.deliver((3, 6))
        self.assertIs(net.is_done(), True)

    def test_not_joined(self):
        net = done(APART, ("start", 1), ("deliver", (1, 2)), ("deliver", (2, 1)))
        self.assertIs(net.is_done(), False)
        with self.assertRaises(StateError):
            net.cut()

    def test_a_cut_shares_nothing(self):
        net = done(PAIR, ("enter", 2, "a"), ("send", (2, 1), "a"), ("enter", 1, "b"), ("start", 1), ("deliver", (1, 2)),
                   ("deliver", (2, 1)), ("deliver", (2, 1)))
        cut = net.cut()
        before, seen = copy.deepcopy(cut), state(net)
        for row in cut[0].values():
            self.assertIsInstance(row, tuple)
            for numbers in row:
                numbers["z"] = 9
        cut[1][2, 1].append("z")
        cut[1].clear()
        cut[0].clear()
        self.assertEqual((net.cut(), state(net)), (before, seen))
        # What is done later does not change it.
        again = net.cut()
        net.leave(1, "b")
        net.enter(2, "c")
        self.assertEqual((again, net.cut()), (before, before))


def drawn_deeds(chance, graph, many, start_at=None):
    """Return deeds that can all be done, the reading begun at a switch among them, in a drawn order."""
    net = Counting(graph)
    deeds = []
    for at in range(many):
        options = [("enter", switch, kind) for switch in net.held for kind in "ab"]
        options += [("leave", switch, kind) for switch in net.held for kind in net.held[switch]]
        options += [("send", end, kind) for end in net.lanes for kind in net.held[end[0]]] * 2
        options += [("deliver", end) for end in net.lanes if net.lanes[end]] * 5
        deed = ("start", chance.randrange(1, graph[1] + 1)) if at == start_at else chance.choice(options)
        perform(net, deed)
        deeds.append(deed)
    return net, deeds


def without_marks(net):
    """Return what switches hold, count, and have in their lanes, but for the marks."""
    lanes = {end: [kind for kind in row if kind != MARK] for end, row in net.lanes.items()}
    return copy.deepcopy((net.held, net.came, net.left, lanes))


class Parting(unittest.TestCase):
    def check(self, graph, net, deeds):
        """Check what points 88 and 89 promise of deeds; return whether the reading is done behind them."""
        before = copy.deepcopy((graph, deeds))
        told = parted(graph, deeds)
        self.assertEqual((graph, deeds), before)
        self.assertEqual(told is not None, net.is_done())
        if told is None:
            return False
        first, then = told
        self.assertIsInstance(told, tuple)
        again = done(graph, *first)
        switches, lanes = net.cut()
        self.assertEqual({switch: (again.held[switch], again.came[switch], again.left[switch]) for switch in again.held},
                         switches)
        self.assertEqual(again.lanes, lanes)
        for deed in then:
            perform(again, deed)
        self.assertEqual(without_marks(again), without_marks(net))
        # Each deed with data is in one of them, in its order.
        self.assertEqual(self.merged(first, then, self.with_data(graph, deeds)), [])
        for kind, (came, left, held, going) in balance((switches, lanes)).items():
            self.assertEqual(came, left + held + going, kind)
        return True

    def with_data(self, graph, deeds):
        net = Counting(graph)
        found = []
        for deed in deeds:
            if deed[0] != "start" and not (deed[0] == "deliver" and net.lanes[deed[1]][0] == MARK):
                found.append(deed)
            perform(net, deed)
        return found

    def merged(self, first, then, deeds):
        """Return what is left of deeds when both lists are taken out of them in their order."""
        for rows in (first, then):
            rest, rows = [], list(rows)
            self.assertEqual(len(first) + len(then), len(first + then))
            for deed in deeds:
                if rows and deed == rows[0]:
                    rows.pop(0)
                else:
                    rest.append(deed)
            self.assertEqual(rows, [])
            deeds = rest
        return deeds

    def test_not_done(self):
        self.assertIsNone(parted(PAIR, []))
        self.assertIsNone(parted(PAIR, [("enter", 1, "a")]))
        self.assertIsNone(parted(PAIR, [("start", 1), ("deliver", (1, 2))]))
        self.assertIsNone(parted(APART, [("start", 1), ("deliver", (1, 2)), ("deliver", (2, 1))]))

    def test_one_switch(self):
        enter, leave = ("enter", 1, "a"), ("leave", 1, "a")
        self.assertEqual(parted(ALONE, [enter, leave, ("start", 1), enter]), ([enter, leave], [enter]))
        self.assertEqual(parted(ALONE, [("start", 1)]), ([], []))

    def test_where_deeds_are_done(self):
        # 1 is read at once, 2 only by its mark; what is sent by 2 and comes to 1 in between is before and behind the cut.
        deeds = [("enter", 2, "a"), ("start", 1), ("enter", 1, "b"), ("send", (2, 1), "a"), ("deliver", (2, 1)),
                 ("enter", 2, "c"), ("deliver", (1, 2)), ("leave", 2, "c"), ("deliver", (2, 1)), ("leave", 1, "a")]
        self.assertEqual(parted(PAIR, deeds), ([deeds[0], deeds[3], deeds[5]], [deeds[2], deeds[4], deeds[7], deeds[9]]))
        self.assertTrue(self.check(PAIR, done(PAIR, *deeds), deeds))

    def test_delivering_is_done_at_the_other_end(self):
        # 2 is not read when a comes there; 1, which sent it, is read by then.
        deeds = [("enter", 1, "a"), ("send", (1, 2), "a"), ("start", 1), ("deliver", (1, 2)), ("deliver", (1, 2)),
                 ("deliver", (2, 1))]
        self.assertEqual(parted(PAIR, deeds), ([deeds[0], deeds[1], deeds[3]], []))
        # And the other way round.
        deeds = [("enter", 1, "a"), ("send", (1, 2), "a"), ("start", 2), ("deliver", (1, 2)), ("deliver", (2, 1)),
                 ("deliver", (1, 2))]
        self.assertEqual(parted(PAIR, deeds), ([deeds[0], deeds[1]], [deeds[3]]))

    def test_drawn(self):
        chance = random.Random(21)
        many = 0
        for _ in range(150):
            graph = chance.choice([ALONE, PAIR, RING, twins(3), chain_graph(4), APART,
                                   random_graph(chance, chance.randrange(1, 6))])
            steps = chance.randrange(20, 250)
            net, deeds = drawn_deeds(chance, graph, steps, chance.randrange(steps))
            many += self.check(graph, net, deeds)
        self.assertTrue(50 < many < 140, many)


class Balances(unittest.TestCase):
    def test_nothing(self):
        self.assertEqual(balance(({}, {})), {})
        self.assertEqual(balance(({1: ({}, {}, {}), 2: ({}, {}, {})}, {(1, 2): [], (2, 1): []})), {})

    def test_numbers(self):
        cut = ({1: ({"a": 2}, {"a": 5, "b": 1}, {"b": 1}), 2: ({"a": 1, "c": 4}, {"a": 2}, {"a": 3, "d": 7})},
               {(1, 2): ["a", "e", "a"], (2, 1): ["a"]})
        before = copy.deepcopy(cut)
        told = balance(cut)
        self.assertEqual(told, {"a": (7, 3, 3, 3), "b": (1, 1, 0, 0), "c": (0, 0, 4, 0), "d": (0, 7, 0, 0),
                                "e": (0, 0, 0, 1)})
        self.assertEqual(cut, before)
        for row in told.values():
            self.assertIsInstance(row, tuple)

    def test_of_a_reading(self):
        net = done(PAIR, *[("enter", 1, "a")] * 5, ("leave", 1, "a"), ("send", (1, 2), "a"), ("send", (1, 2), "a"),
                   ("start", 2), ("deliver", (1, 2)), ("deliver", (1, 2)), ("deliver", (2, 1)), ("deliver", (1, 2)))
        self.assertEqual(balance(net.cut()), {"a": (5, 1, 2, 2)})


if __name__ == "__main__":
    unittest.main()
