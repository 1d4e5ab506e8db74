"""Ways around dead links (points 71 to 73)."""

import copy
import itertools
import random
import unittest

from hangbridge.graphs import link_of, reached
from hangbridge.ways import cut_right, distances, next_port, other_end, side_of, walk
from tests.net_samples import chain_graph, random_graph, ring_graph, twins

ALONE = ("graph", 1, [])
APART = ("graph", 3, [((1, 1), (2, 1))])
# A ring of four, in which 1 and 2 are joined twice.
DOUBLE = ("graph", 4, [((1, 1), (4, 1)), ((1, 2), (2, 2)), ((1, 3), (2, 1)), ((2, 6), (3, 1)), ((3, 2), (4, 2))])


def subsets(links):
    """Return all lists of some links."""
    return [list(some) for many in range(len(links) + 1) for some in itertools.combinations(links, many)]


def parallel(chance, count):
    """Return a graph with up to three links more than switches, some beside each other, perhaps not joined."""
    ends = [(switch, port) for switch in range(1, count + 1) for port in range(1, 7)]
    chance.shuffle(ends)
    pairs = [(ends.pop(), ends.pop()) for _ in range(chance.randrange(min(count + 4, 3 * count)))]
    return ("graph", count, sorted([link_of(one, other) for one, other in pairs if one[0] != other[0]]))


class Parts(unittest.TestCase):
    def test_other_end(self):
        for graph in (ALONE, APART, DOUBLE, twins(3)):
            for one, other in graph[2]:
                self.assertEqual((other_end(graph, one), other_end(graph, other)), (other, one))
        self.assertIsNone(other_end(APART, (1, 2)))
        self.assertIsNone(other_end(ALONE, (1, 1)))

    def test_distances(self):
        self.assertEqual(distances(ALONE, [], 1), {1: 0})
        self.assertEqual(distances(APART, [], 1), {1: 0, 2: 1})
        self.assertEqual(distances(APART, APART[2], 1), {1: 0})
        self.assertEqual(distances(APART, [], 3), {3: 0})
        self.assertEqual(distances(chain_graph(8), [], 1), {switch: switch - 1 for switch in range(1, 9)})
        self.assertEqual(distances(ring_graph(8), [], 3), {1: 2, 2: 1, 3: 0, 4: 1, 5: 2, 6: 3, 7: 4, 8: 3})
        self.assertEqual(distances(DOUBLE, [DOUBLE[2][1]], 3), {1: 2, 2: 1, 3: 0, 4: 1})
        self.assertEqual(distances(DOUBLE, DOUBLE[2][1:3], 2), {1: 3, 4: 2, 3: 1, 2: 0})

    def test_next_port(self):
        self.assertEqual([next_port(DOUBLE, [], 1, to) for to in (1, 2, 3, 4)], [None, 2, 1, 1])
        # The least of several shortest ways: both ports lead to 2, and both directions lead to 3.
        self.assertEqual(next_port(DOUBLE, [DOUBLE[2][1]], 1, 2), 3)
        self.assertEqual(next_port(DOUBLE, [DOUBLE[2][0]], 1, 3), 2)
        self.assertEqual(next_port(DOUBLE, DOUBLE[2][1:3], 1, 2), 1)
        self.assertIsNone(next_port(DOUBLE, DOUBLE[2][:3], 1, 2))
        self.assertIsNone(next_port(APART, [], 1, 3))
        self.assertIsNone(next_port(ALONE, [], 1, 1))
        # The least port, though it leads to the greater switch.
        graph = ("graph", 4, [((1, 1), (3, 1)), ((1, 2), (2, 1)), ((2, 2), (4, 1)), ((3, 2), (4, 2))])
        self.assertEqual((next_port(graph, [], 1, 4), next_port(graph, [], 4, 1)), (1, 1))

    def test_side_of(self):
        self.assertEqual(side_of(DOUBLE, [], 3), [1, 2, 3, 4])
        self.assertEqual(side_of(DOUBLE, [DOUBLE[2][0], DOUBLE[2][3]], 1), [1, 2])
        self.assertEqual(side_of(DOUBLE, [DOUBLE[2][0], DOUBLE[2][3]], 4), [3, 4])
        self.assertEqual((side_of(APART, [], 3), side_of(ALONE, [], 1)), ([3], [1]))


class Walks(unittest.TestCase):
    def test_nothing_to_do(self):
        for graph in (ALONE, APART, DOUBLE):
            self.assertEqual(walk(graph, graph[2], 1, 1), ("there", [], []))

    def test_nothing_down(self):
        self.assertEqual(walk(DOUBLE, [], 1, 3), ("there", [(1, 1), (4, 2)], []))
        self.assertEqual(walk(DOUBLE, [], 3, 1), ("there", [(3, 1), (2, 1)], []))
        self.assertEqual(walk(chain_graph(4), [], 4, 1), ("there", [(4, 1), (3, 1), (2, 1)], []))

    def test_no_links(self):
        self.assertEqual(walk(APART, [], 1, 3), ("cut", [], []))
        self.assertEqual(walk(("graph", 2, []), [], 1, 2), ("cut", [], []))

    def test_around(self):
        self.assertEqual(walk(DOUBLE, [DOUBLE[2][1]], 1, 2), ("there", [(1, 3)], [DOUBLE[2][1]]))
        self.assertEqual(walk(DOUBLE, DOUBLE[2][1:3], 1, 2), ("there", [(1, 1), (4, 2), (3, 1)], DOUBLE[2][1:3]))

    def test_a_way_that_turns_back(self):
        # It goes to 4 first, finds the link to 3 down there, and goes back.
        dead = ((3, 2), (4, 2))
        self.assertEqual(walk(DOUBLE, [dead], 1, 3), ("there", [(1, 1), (4, 1), (1, 2), (2, 6)], [dead]))

    def test_everything_down(self):
        self.assertEqual(walk(DOUBLE, DOUBLE[2], 1, 3), ("cut", [], DOUBLE[2][:3]))
        self.assertEqual(walk(twins(6), twins(6)[2], 2, 1), ("cut", [], twins(6)[2]))

    def test_cut_off(self):
        graph = chain_graph(4)
        self.assertEqual(walk(graph, [graph[2][2]], 1, 4), ("cut", [(1, 2), (2, 2)], [graph[2][2]]))
        # Links that are down behind the cut are not found.
        self.assertEqual(walk(graph, [graph[2][0], graph[2][2]], 1, 4), ("cut", [], [graph[2][0]]))

    def test_carried_links_are_ascending(self):
        down = [DOUBLE[2][0], DOUBLE[2][1], DOUBLE[2][2]]
        self.assertEqual(walk(DOUBLE, down[::-1], 1, 2), ("cut", [], down))
        self.assertEqual(walk(DOUBLE, [DOUBLE[2][4], DOUBLE[2][1]], 1, 3)[2], [DOUBLE[2][1], DOUBLE[2][4]])

    def check(self, graph, down, first, to):
        """Check what points 72 and 73 promise of a walk."""
        before = copy.deepcopy((graph, down))
        told, ends, carried = walk(graph, down, first, to)
        self.assertEqual((graph, down), before)
        joined = to in reached([link for link in graph[2] if link not in down], first)
        self.assertEqual(told, "there" if joined else "cut")
        # The ends lead on, over links that are not down, and to the goal if it arrives.
        switch = first
        for end in ends:
            self.assertEqual(end[0], switch)
            self.assertNotIn(link_of(end, other_end(graph, end)), down)
            switch = other_end(graph, end)[0]
        self.assertEqual(switch == to, joined)
        self.assertEqual(carried, sorted(set(carried)))
        self.assertLessEqual(set(carried), set(down))
        self.assertLessEqual(len(ends), (graph[1] - 1) * (len(carried) + 1))
        side = side_of(graph, carried, switch)
        self.assertEqual(cut_right(graph, down, first, to, carried, side), not joined)
        if not joined:
            self.assertEqual(side, side_of(graph, carried, first))

    def test_all_sets_of_dead_links(self):
        for graph in (ALONE, APART, DOUBLE, ring_graph(5), twins(4), chain_graph(4)):
            switches = range(1, graph[1] + 1)
            for down in subsets(graph[2]):
                for first, to in itertools.product(switches, switches):
                    self.check(graph, down, first, to)

    def test_drawn(self):
        chance = random.Random(4)
        for _ in range(300):
            count = chance.randrange(1, 9)
            graph = chance.choice([parallel, random_graph])(chance, count)
            down = [link for link in graph[2] if chance.random() < 0.4]
            chance.shuffle(down)
            self.check(graph, down, chance.randrange(1, count + 1), chance.randrange(1, count + 1))

    def test_each_step_is_a_shortest_way(self):
        # Done again as the document tells it, with distances found in another way.
        chance = random.Random(5)
        for _ in range(150):
            graph = random_graph(chance, chance.randrange(2, 8))
            down = [link for link in graph[2] if chance.random() < 0.4]
            to = chance.randrange(1, graph[1] + 1)
            switch, ends, carried = 1, [], []
            while switch != to:
                links = [link for link in graph[2] if link not in carried]
                far = {to: 0}
                for many in range(8):
                    for one, other in [pair for link in links for pair in (link, link[::-1])]:
                        if far.get(one[0]) == many and other[0] not in far:
                            far[other[0]] = many + 1
                ports = [(far[other[0]], one[1], one, other) for link in links for one, other in (link, link[::-1])
                         if one[0] == switch and other[0] in far]
                if not ports:
                    break
                _, _, one, other = min(ports)
                if link_of(one, other) in down:
                    carried.append(link_of(one, other))
                else:
                    ends.append(one)
                    switch = other[0]
            told = "there" if switch == to else "cut"
            self.assertEqual(walk(graph, down, 1, to), (told, ends, sorted(carried)))


class Sides(unittest.TestCase):
    GRAPH = ring_graph(4)
    # The links 1-2 and 3-4, which cut the ring.
    DOWN = [GRAPH[2][0], GRAPH[2][3]]

    def assertRight(self, right, down, first, to, dead, side):
        before = copy.deepcopy((self.GRAPH, down, dead, side))
        self.assertIs(cut_right(self.GRAPH, down, first, to, dead, side), right)
        self.assertEqual((self.GRAPH, down, dead, side), before)

    def test_right(self):
        self.assertEqual(self.DOWN, [((1, 2), (2, 1)), ((3, 2), (4, 1))])
        self.assertRight(True, self.DOWN, 1, 2, self.DOWN, [1, 4])
        self.assertRight(True, self.DOWN, 4, 3, self.DOWN, [4, 1])
        self.assertRight(True, self.DOWN, 2, 1, self.DOWN[::-1], [2, 3])
        # What is down and does not matter may be carried, too.
        self.assertRight(True, self.GRAPH[2], 1, 2, self.GRAPH[2], [1])
        self.assertRight(True, self.GRAPH[2], 1, 2, self.GRAPH[2][:2], [1])

    def test_switches(self):
        for side in ([], [4], [1], [1, 3], [1, 4, 2], [1, 2, 3, 4], [2, 3], [1, 3, 4]):
            self.assertRight(False, self.DOWN, 1, 2, self.DOWN, side)

    def test_first_switch_and_goal(self):
        # As a side of its own each of these would do.
        self.assertRight(False, self.DOWN, 2, 3, self.DOWN, [1, 4])
        self.assertRight(False, self.DOWN, 1, 4, self.DOWN, [1, 4])
        self.assertRight(False, self.DOWN, 2, 1, self.DOWN, [1, 4])

    def test_links(self):
        self.assertRight(False, [], 1, 2, self.DOWN, [1, 4])
        self.assertRight(False, self.DOWN[:1], 1, 2, self.DOWN, [1, 4])
        self.assertRight(False, self.DOWN, 1, 2, self.DOWN[:1], [1, 4])
        self.assertRight(False, self.DOWN, 1, 2, [], [1, 4])
        self.assertRight(False, self.DOWN, 1, 2, [*self.DOWN, self.GRAPH[2][1]], [1, 4])
        self.assertRight(False, [self.DOWN[0]], 1, 2, [self.DOWN[0]], [1, 4])

    def test_accepted_only_if_it_cannot_arrive(self):
        for graph in (ring_graph(3), twins(2), APART):
            switches = range(1, graph[1] + 1)
            sides = [list(some) for many in range(graph[1] + 1) for some in itertools.combinations(switches, many)]
            for down, dead, side in itertools.product(subsets(graph[2]), subsets(graph[2]), sides):
                for first, to in itertools.product(switches, switches):
                    right = cut_right(graph, down, first, to, dead, side)
                    leading = [link for link in graph[2] if (link[0][0] in side) != (link[1][0] in side)]
                    self.assertEqual(right, set(dead) <= set(down) and first in side and to not in side
                                     and set(leading) <= set(dead))
                    if right:
                        self.assertEqual(walk(graph, down, first, to)[0], "cut")


if __name__ == "__main__":
    unittest.main()
