"""Questions about what a policy does in a net (points 74 to 77)."""

import copy
import random
import unittest

from hangbridge.asking import (closed_right, losses, meeting, next_places, ranks, ranks_right, reached, ring, steps,
                               way_to)
from hangbridge.policies import after, does, link_policy
from tests.net_samples import chain_graph, random_graph, ring_graph
from tests.policy_samples import Drawing

H = (1, 2, 3)
ROW = chain_graph(4)
RING = ring_graph(3)
PASS, STOP = ("test", ("all", [])), ("sum", [])


def out_at(**ports):
    """Return the policy by which what is at a switch goes out at a port, or at several ones."""
    rows = []
    for name, told in ports.items():
        here = ("test", ("is", "switch", int(name[1:])))
        for port in told if isinstance(told, list) else [told]:
            rows.append(("seq", [here, ("set", "port", port)]))
    return ("sum", rows)


ONWARD = out_at(s1=2, s2=2, s3=2, s4=0)
AROUND = out_at(s1=2, s2=2, s3=6)
# Twice around, as the kind is counted up, and then out.
COUNTED = ("seq", [
    ("sum", [("seq", [("test", ("is", "kind", kind)), ("set", "kind", kind + 1)]) for kind in range(6)] +
     [("seq", [("test", ("is", "kind", 6)), ("set", "kind", 6)])]),
    ("sum", [("seq", [("test", ("is", "kind", 6)), ("set", "port", 0)]),
             ("seq", [("test", ("not", ("is", "kind", 6))), AROUND])])])


class Unchanged(unittest.TestCase):
    def ask(self, question, *given):
        """Return an answer, which must not change what was given, nor share lists with it."""
        before = copy.deepcopy(given)
        told = question(*given)
        self.assertEqual(given, before)
        again = question(*given)
        self.assertEqual(told, again)
        if isinstance(told, (list, dict)):
            self.assertIsNot(told, again)
            told.clear()
            self.assertEqual((given, question(*given)), (before, again))
        return again


class Steps(Unchanged):
    def test_kinds(self):
        self.assertEqual(self.ask(steps, ONWARD, ROW, (1, 0, H)), [("in", (2, 1, H))])
        self.assertEqual(self.ask(steps, ONWARD, ROW, (4, 1, H)), [("out", 4, H)])
        self.assertEqual(self.ask(steps, ("set", "port", 5), ROW, (4, 1, H)), [("lost", (4, 5), H)])
        self.assertEqual(self.ask(steps, STOP, ROW, (1, 0, H)), [])

    def test_back_where_it_came_from(self):
        self.assertEqual(steps(PASS, ROW, (1, 2, H)), [("in", (2, 1, H))])
        self.assertEqual(steps(PASS, ROW, (1, 0, H)), [("out", 1, H)])
        self.assertEqual(steps(PASS, ROW, (1, 1, H)), [("lost", (1, 1), H)])

    def test_order(self):
        policy = ("sum", [("set", "port", 6), ("set", "port", 2), ("seq", [("set", "kind", 0), ("set", "port", 2)]),
                          ("set", "port", 1), ("set", "port", 0), ("set", "port", 2)])
        self.assertEqual(steps(policy, ROW, (2, 1, H)),
                         [("out", 2, H), ("in", (1, 2, H)), ("in", (3, 1, (1, 2, 0))), ("in", (3, 1, H)),
                          ("lost", (2, 6), H)])

    def test_next_places(self):
        self.assertEqual(self.ask(next_places, ONWARD, ROW, (1, 0, H)), [(2, 1, H)])
        self.assertEqual(next_places(ONWARD, ROW, (4, 1, H)), [])
        self.assertEqual(next_places(("set", "port", 5), ROW, (1, 0, H)), [])
        # To a lesser switch by a greater port.
        graph = ("graph", 3, [((1, 1), (2, 6)), ((2, 1), (3, 1))])
        self.assertEqual(next_places(("sum", [("set", "port", 1), ("set", "port", 6)]), graph, (2, 0, H)),
                         [(1, 1, H), (3, 1, H)])

    def test_as_the_link_policy_tells(self):
        chance = random.Random(3)
        for _ in range(60):
            graph = random_graph(chance, 4)
            policy = drawn(chance)
            place = (chance.randrange(1, 5), chance.randrange(7), (chance.randrange(2), 0, chance.randrange(2)))
            both = ("seq", [policy, link_policy(graph)])
            states = after(both, (place[0], place[1], *place[2]))
            self.assertEqual(next_places(policy, graph, place),
                             sorted({(state[0], state[1], state[2:]) for state in states}))
            self.assertEqual(len(steps(policy, graph, place)), len(does(policy, *place)))


def drawn(chance, depth=3):
    """Return a local policy over few numbers."""
    numbers = {"switch": [1, 2, 3, 4], "port": [0, 1, 2, 3, 6], "src": [0, 1], "kind": [0, 1]}
    return Drawing(chance, numbers, ["port", "port", "src", "kind"]).policy(depth)


class Reached(Unchanged):
    def test_rows(self):
        row = [(1, 0, H), (2, 1, H), (3, 1, H), (4, 1, H)]
        self.assertEqual(sorted(self.ask(reached, ONWARD, ROW, [(1, 0, H)])), row)
        self.assertEqual(sorted(reached(ONWARD, ROW, [(3, 6, H)])), [(3, 6, H), (4, 1, H)])
        self.assertEqual(sorted(reached(STOP, ROW, [(3, 6, H)])), [(3, 6, H)])
        self.assertEqual(sorted(reached(("set", "port", 0), ROW, [(3, 6, H)])), [(3, 6, H)])

    def test_starts(self):
        self.assertEqual(self.ask(reached, ONWARD, ROW, []), {})
        self.assertEqual(sorted(reached(ONWARD, ROW, [(4, 0, H), (4, 0, H), (3, 0, H)])),
                         [(3, 0, H), (4, 0, H), (4, 1, H)])
        self.assertIsInstance(reached(ONWARD, ROW, []), dict)

    def test_around(self):
        self.assertEqual(sorted(reached(AROUND, RING, [(1, 0, H)])), [(1, 0, H), (1, 6, H), (2, 1, H), (3, 1, H)])

    def test_way_to(self):
        row = [(1, 0, H), (2, 1, H), (3, 1, H), (4, 1, H)]
        self.assertEqual(self.ask(way_to, ONWARD, ROW, [(1, 0, H)], (4, 1, H)), row)
        self.assertEqual(way_to(ONWARD, ROW, [(1, 0, H)], (1, 0, H)), [(1, 0, H)])
        self.assertEqual(way_to(ONWARD, ROW, [(2, 1, H), (2, 1, H)], (4, 1, H)), row[1:])
        # Not reached: the place itself, another header, no start.
        self.assertIsNone(way_to(ONWARD, ROW, [(1, 0, H)], (4, 0, H)))
        self.assertIsNone(way_to(ONWARD, ROW, [(1, 0, H)], (4, 1, (0, 0, 0))))
        self.assertIsNone(way_to(ONWARD, ROW, [], (1, 0, H)))
        self.assertIsNone(way_to(ONWARD, ROW, [(2, 1, H)], (1, 0, H)))

    def test_shortest(self):
        # Both ways around a ring of four, and from the nearest of several starts.
        both = out_at(s1=[2, 6], s2=[1, 2], s3=[1, 2], s4=[1, 6])
        self.assertEqual(way_to(both, ring_graph(4), [(1, 0, H)], (4, 6, H)), [(1, 0, H), (4, 6, H)])
        self.assertEqual(way_to(ONWARD, ROW, [(1, 0, H), (3, 1, H)], (4, 1, H)), [(3, 1, H), (4, 1, H)])
        self.assertEqual(len(way_to(both, ring_graph(4), [(1, 0, H)], (4, 1, H))), 4)

    def test_around_to_the_start(self):
        self.assertEqual(way_to(AROUND, RING, [(1, 6, H)], (1, 6, H)), [(1, 6, H)])
        self.assertEqual(len(way_to(AROUND, RING, [(1, 0, H)], (1, 6, H))), 4)


class Papers(Unchanged):
    STARTS = [(2, 0, H)]
    PLACES = [(2, 0, H), (3, 1, H), (4, 1, H)]

    def assertPaper(self, right, places, starts=None, goal=(1, 0, H)):
        self.assertIs(self.ask(closed_right, ONWARD, ROW, starts or self.STARTS, goal, places), right)

    def test_right(self):
        self.assertPaper(True, self.PLACES)
        self.assertPaper(True, self.PLACES[::-1] + self.PLACES)
        # More than what is reached, if what comes next to it is in, too.
        self.assertPaper(True, [*self.PLACES, (4, 5, H), (3, 0, (0, 0, 0)), (4, 1, (0, 0, 0))])
        self.assertPaper(True, self.PLACES, [(2, 0, H), (2, 0, H), (3, 1, H)])

    def test_without_starts(self):
        self.assertIs(closed_right(ONWARD, ROW, [], (1, 0, H), []), True)
        self.assertIs(closed_right(ONWARD, ROW, [], (1, 0, H), self.PLACES), True)
        self.assertIs(closed_right(ONWARD, ROW, [], (4, 1, H), self.PLACES), False)

    def test_lacks_a_start(self):
        self.assertPaper(False, self.PLACES[1:])
        self.assertPaper(False, self.PLACES, [(2, 0, H), (4, 0, H)])
        self.assertPaper(False, [])

    def test_lacks_what_comes_next(self):
        self.assertPaper(False, self.PLACES[:2])
        self.assertPaper(False, [self.PLACES[0], self.PLACES[2]])
        self.assertPaper(False, [*self.PLACES, (3, 0, (0, 0, 0))])

    def test_has_the_goal(self):
        self.assertPaper(False, self.PLACES, goal=(4, 1, H))
        self.assertPaper(False, [*self.PLACES, (1, 0, H), (2, 1, H)])
        self.assertPaper(False, self.PLACES, goal=(2, 0, H))

    def test_one_of_both(self):
        # A place has a way or a paper.
        chance = random.Random(6)
        ways = 0
        for _ in range(120):
            graph, policy = random_graph(chance, 4), drawn(chance)
            starts = [(chance.randrange(1, 5), chance.randrange(3), (0, 0, 0)) for _ in range(2)]
            found = reached(policy, graph, starts)
            goal = chance.choice([*found, (chance.randrange(1, 5), chance.randrange(7), (0, 0, 0))])
            way = way_to(policy, graph, starts, goal)
            self.assertEqual(closed_right(policy, graph, starts, goal, list(found)), way is None)
            if way is not None:
                ways += 1
                self.assertEqual((way[0] in starts, way[-1]), (True, goal))
                for place, following in zip(way, way[1:]):
                    self.assertIn(following, next_places(policy, graph, place))
                # Fewer steps do not lead there.
                near = set(starts)
                for _ in way[1:]:
                    self.assertNotIn(goal, near)
                    near |= {other for place in near for other in next_places(policy, graph, place)}
                self.assertIn(goal, near)
        self.assertGreater(ways, 30)


class Rings(Unchanged):
    def assertRing(self, policy, graph, starts):
        told = self.ask(ring, policy, graph, starts)
        self.assertGreaterEqual(len(told), 2)
        self.assertEqual(told[0], told[-1])
        for place, following in zip(told, told[1:]):
            self.assertIn(following, next_places(policy, graph, place))
        self.assertLessEqual(set(told), set(reached(policy, graph, starts)))
        self.assertIsNone(ranks(policy, graph, starts))
        return told

    def assertRanks(self, policy, graph, starts):
        told = self.ask(ranks, policy, graph, starts)
        self.assertIs(self.ask(ranks_right, policy, graph, starts, told), True)
        self.assertLessEqual(set(reached(policy, graph, starts)), set(told))
        self.assertIsNone(ring(policy, graph, starts))
        return told

    def test_none(self):
        self.assertRanks(ONWARD, ROW, [(1, 0, H)])
        self.assertRanks(STOP, ROW, [(1, 0, H), (1, 0, H), (2, 5, H)])
        self.assertEqual(self.assertRanks(ONWARD, ROW, []), {})

    def test_around(self):
        told = self.assertRing(AROUND, RING, [(1, 0, H)])
        self.assertEqual(set(told), {(1, 6, H), (2, 1, H), (3, 1, H)})
        self.assertEqual(len(told), 4)

    def test_to_and_fro(self):
        told = self.assertRing(PASS, ROW, [(1, 2, H)])
        self.assertEqual(set(told), {(1, 2, H), (2, 1, H)})
        self.assertEqual(len(told), 3)

    def test_a_ring_that_is_not_reached(self):
        self.assertRanks(out_at(s1=0, s2=2, s3=1), RING, [(1, 0, H)])
        self.assertRing(out_at(s1=0, s2=2, s3=1), RING, [(1, 0, H), (3, 0, H)])

    def test_a_ring_among_other_ways(self):
        policy = out_at(s1=[0, 2], s2=[2, 5], s3=[1, 2, 0], s4=[0, 1])
        told = self.assertRing(policy, ROW, [(1, 0, H)])
        self.assertGreaterEqual(len(told), 3)

    def test_a_long_ring(self):
        # A header that is counted up all the while comes back to where it was behind 48 steps.
        count = ("sum", [("seq", [("test", ("is", "kind", kind)), ("set", "kind", (kind + 1) % 16)])
                         for kind in range(16)])
        told = self.assertRing(("seq", [count, AROUND]), RING, [(1, 0, (0, 0, 0))])
        self.assertEqual(len(told), 49)

    def test_a_long_row(self):
        told = self.assertRanks(COUNTED, RING, [(1, 0, (0, 0, 0))])
        self.assertEqual(len(told), 6)

    def test_many_places(self):
        # 3 switches, 16 * 16 headers; deeper than functions may call themselves.
        carry = ("sum", [("seq", [("test", ("is", "kind", kind)), ("set", "kind", kind + 1)]) for kind in range(15)] +
                 [("seq", [("test", ("all", [("is", "kind", 15), ("is", "dst", dst)])), ("set", "kind", 0),
                           ("set", "dst", dst + 1)]) for dst in range(15)])
        told = self.assertRanks(("seq", [carry, AROUND]), RING, [(1, 0, (0, 0, 0))])
        self.assertEqual(len(told), 256)

    def test_two_ways_of_different_length(self):
        # To 3 at once and by 2; the rank of 1 must be greater than those of both.
        graph = ("graph", 3, [((1, 1), (2, 1)), ((1, 2), (3, 2)), ((2, 2), (3, 1))])
        self.assertRanks(out_at(s1=[1, 2], s2=2, s3=0), graph, [(1, 0, H)])

    def test_drawn(self):
        chance = random.Random(8)
        rings = 0
        for _ in range(150):
            graph, policy = random_graph(chance, 4), drawn(chance)
            starts = [(chance.randrange(1, 5), chance.randrange(3), (0, 0, 0)) for _ in range(2)]
            if ranks(policy, graph, starts) is None:
                rings += 1
                self.assertRing(policy, graph, starts)
            else:
                self.assertRanks(policy, graph, starts)
        self.assertTrue(15 < rings < 135, rings)


class Ranks(Unchanged):
    RIGHT = {(2, 0, H): 5, (3, 1, H): 1, (4, 1, H): 0}

    def assertRight(self, right, told, starts=((2, 0, H),)):
        self.assertIs(self.ask(ranks_right, ONWARD, ROW, list(starts), told), right)

    def test_right(self):
        self.assertRight(True, self.RIGHT)
        self.assertRight(True, {place: rank - 100 for place, rank in self.RIGHT.items()})
        self.assertRight(True, {**self.RIGHT, (4, 0, H): 5, (3, 0, H): 1})
        self.assertRight(True, {}, [])
        self.assertRight(True, self.RIGHT, [(3, 1, H), (3, 1, H)])

    def test_lacks_a_place(self):
        for place in self.RIGHT:
            self.assertRight(False, {other: rank for other, rank in self.RIGHT.items() if other != place})
        self.assertRight(False, {})
        self.assertRight(False, self.RIGHT, [(2, 0, H), (1, 0, H)])

    def test_one_that_is_not_reached_lacks_what_comes_next(self):
        self.assertRight(False, {**self.RIGHT, (3, 0, (0, 0, 0)): 5})

    def test_not_smaller(self):
        self.assertRight(False, {**self.RIGHT, (3, 1, H): 5})
        self.assertRight(False, {**self.RIGHT, (3, 1, H): 6})
        self.assertRight(False, {**self.RIGHT, (4, 1, H): 1})
        self.assertRight(False, {**self.RIGHT, (3, 0, H): 0})

    def test_a_ring_has_none(self):
        chance = random.Random(2)
        places = list(reached(AROUND, RING, [(1, 0, H)]))
        for _ in range(50):
            told = {place: chance.randrange(-5, 5) for place in places}
            self.assertFalse(ranks_right(AROUND, RING, [(1, 0, H)], told))


class Losses(Unchanged):
    def test_none(self):
        self.assertEqual(losses(ONWARD, ROW, [(1, 0, H)]), ([], []))
        self.assertEqual(losses(STOP, ROW, []), ([], []))
        self.assertEqual(losses(AROUND, RING, [(1, 0, H)]), ([], []))

    def test_drops(self):
        policy = out_at(s1=2, s2=2)
        self.assertEqual(losses(policy, ROW, [(1, 0, H), (2, 0, H), (1, 0, H)]), ([(3, 1, H)], []))
        self.assertEqual(losses(STOP, ROW, [(2, 0, H), (1, 5, H), (1, 0, H), (2, 0, H)]),
                         ([(1, 0, H), (1, 5, H), (2, 0, H)], []))

    def test_lost(self):
        policy = out_at(s1=[2, 5, 0], s2=[3, 6, 3], s3=1)
        self.assertEqual(losses(policy, ROW, [(2, 0, H), (1, 0, H)]),
                         ([], [((1, 5), H), ((2, 3), H), ((2, 6), H)]))

    def test_each_once_and_ascending(self):
        # Both starts lead to the same losses, with two headers, of which the greater one is lost first.
        policy = ("seq", [("set", "port", 6), ("sum", [("set", "kind", 3), ("set", "kind", 1)])])
        self.assertEqual(losses(policy, ROW, [(4, 0, H), (4, 1, H), (3, 0, H)]),
                         ([], [((3, 6), (1, 2, 1)), ((3, 6), H), ((4, 6), (1, 2, 1)), ((4, 6), H)]))

    def test_ascending_by_ends_and_headers(self):
        # By where it was before, the greater header would be the first one, and at the end the greater port.
        self.assertEqual(losses(("set", "port", 5), ROW, [(1, 0, (9, 0, 0)), (1, 1, (0, 0, 0))]),
                         ([], [((1, 5), (0, 0, 0)), ((1, 5), (9, 0, 0))]))
        policy = ("sum", [("seq", [("test", ("is", "port", 0)), ("set", "port", 6)]),
                          ("seq", [("test", ("is", "port", 3)), ("set", "port", 5)])])
        self.assertEqual(losses(policy, ROW, [(1, 0, H), (1, 3, H)]), ([], [((1, 5), H), ((1, 6), H)]))

    def test_a_place_at_which_something_is_lost_does_not_drop(self):
        self.assertEqual(losses(("set", "port", 5), ROW, [(1, 0, H)]), ([], [((1, 5), H)]))
        self.assertEqual(losses(("set", "port", 0), ROW, [(1, 0, H)]), ([], []))

    def test_not_reached(self):
        self.assertEqual(losses(out_at(s3=2, s4=0), ROW, [(3, 0, H)]), ([], []))

    def test_a_pair_of_lists(self):
        before = copy.deepcopy((STOP, ROW))
        told = losses(STOP, ROW, [(1, 0, H)])
        self.assertIsInstance(told, tuple)
        told[0].clear()
        self.assertEqual((STOP, ROW), before)
        self.assertEqual(losses(STOP, ROW, [(1, 0, H)]), ([(1, 0, H)], []))


class Meeting(Unchanged):
    BACK = out_at(s4=1, s3=1, s2=1, s1=0)

    def test_at_a_start(self):
        self.assertEqual(meeting(ONWARD, ONWARD, ROW, [(1, 0, H)], [(1, 0, H)]), (1, 0, H))
        self.assertEqual(meeting(STOP, ONWARD, ROW, [(3, 1, H)], [(1, 0, H)]), (3, 1, H))
        self.assertEqual(meeting(ONWARD, STOP, ROW, [(1, 0, H)], [(4, 1, H), (3, 1, H)]), (3, 1, H))

    def test_later(self):
        self.assertEqual(self.ask(meeting, ONWARD, ONWARD, ROW, [(1, 0, H)], [(3, 0, H)]), (4, 1, H))
        other = ("seq", [("set", "kind", 3), ONWARD])
        self.assertEqual(meeting(ONWARD, other, ROW, [(2, 0, H)], [(2, 0, (1, 2, 9))]), (3, 1, H))

    def test_never(self):
        # In different directions, with different headers, and with no starts.
        self.assertIsNone(self.ask(meeting, ONWARD, self.BACK, ROW, [(1, 0, H)], [(4, 0, H)]))
        self.assertIsNone(meeting(ONWARD, ONWARD, ROW, [(1, 0, H)], [(1, 0, (0, 0, 0))]))
        self.assertIsNone(meeting(ONWARD, ONWARD, ROW, [(1, 0, H)], []))
        self.assertIsNone(meeting(ONWARD, ONWARD, ROW, [], [(1, 0, H)]))
        self.assertIsNone(meeting(STOP, ONWARD, ROW, [(1, 0, H)], [(2, 0, H)]))

    def test_each_from_its_own_starts(self):
        self.assertEqual(meeting(ONWARD, self.BACK, ROW, [(1, 0, H)], [(3, 1, H), (4, 0, H)]), (3, 1, H))
        self.assertIsNone(meeting(self.BACK, ONWARD, ROW, [(1, 0, H)], [(3, 1, H), (4, 0, H)]))

    def test_drawn(self):
        chance = random.Random(9)
        for _ in range(60):
            graph = random_graph(chance, 4)
            pairs = [(drawn(chance), [(chance.randrange(1, 5), chance.randrange(3), (0, 0, 0))]) for _ in range(2)]
            (one, starts), (other, others) = pairs
            both = set(reached(one, graph, starts)) & set(reached(other, graph, others))
            self.assertEqual(meeting(one, other, graph, starts, others), min(both, default=None))


if __name__ == "__main__":
    unittest.main()
