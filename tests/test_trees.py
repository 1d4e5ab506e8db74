import copy
import itertools
import random
import unittest

from hangbridge.graphs import check_graph, link_of, peer, reached
from hangbridge.trees import below, tree, two_ways, way

RING = [((1, 1), (2, 1)), ((1, 2), (4, 1)), ((2, 2), (3, 1)), ((3, 2), (4, 2))]
PARALLEL = [((1, 1), (2, 1)), ((1, 2), (2, 2)), ((2, 3), (3, 1))]
# 1 - 2 - 3, 2 - 4 - 5, 1 - 6
BRANCHED = [((1, 1), (2, 1)), ((1, 2), (6, 1)), ((2, 2), (3, 1)), ((2, 3), (4, 1)), ((4, 2), (5, 1))]


def random_links(chance, count=8, links=9):
    """Return the links of a random graph."""
    ends = [(switch, port) for switch in range(1, count + 1) for port in range(1, 7)]
    chance.shuffle(ends)
    found = []
    while len(found) < links:
        one, other = ends.pop(), ends.pop()
        if one[0] != other[0]:
            found.append(link_of(one, other))
    assert check_graph(("graph", count, sorted(found)))
    return sorted(found)


def lengths(links):
    """Return the dict from the switches joined to 1 to the lengths of the shortest ways from it."""
    far = {1: 0}
    for length in itertools.count(1):
        row = {other[0] for link in links for one, other in (link, link[::-1])
               if one[0] in far and other[0] not in far}
        if not row:
            return far
        far.update({switch: length for switch in row})


def leads(links, ends, to):
    """Return whether ends lead from the switch 1 to a switch."""
    at = 1
    for end in ends:
        if end[0] != at or peer(links, end) is None:
            return False
        at = peer(links, end)[0]
    return at == to


class Trees(unittest.TestCase):
    def test_no_links(self):
        self.assertEqual(tree([]), {})

    def test_links_that_do_not_join_1(self):
        self.assertEqual(tree([((2, 1), (3, 1)), ((3, 2), (4, 1))]), {})
        self.assertEqual(tree([((1, 5), (3, 1)), ((2, 1), (4, 1))]), {3: (1, 5)})

    def test_ring(self):
        self.assertEqual(tree(RING), {2: (1, 1), 4: (1, 2), 3: (2, 2)})

    def test_parallel_links_by_the_lesser_port(self):
        self.assertEqual(tree(PARALLEL), {2: (1, 1), 3: (2, 3)})
        # The lesser port of the switch that finds counts, and not that of the one that is found.
        self.assertEqual(tree([((1, 1), (2, 6)), ((1, 2), (2, 1))]), {2: (1, 1)})
        self.assertEqual(tree([((1, 1), (3, 1)), ((2, 1), (3, 5)), ((2, 5), (3, 2))]), {3: (1, 1), 2: (3, 2)})

    def test_found_by_the_one_that_was_found_first(self):
        # 3 is found before 2, as it hangs on the lesser port of 1; so 4 is found by 3.
        links = [((1, 1), (3, 1)), ((1, 2), (2, 1)), ((2, 2), (4, 1)), ((3, 2), (4, 2))]
        self.assertEqual(tree(links), {3: (1, 1), 2: (1, 2), 4: (3, 2)})

    def test_in_the_order_in_which_they_are_found(self):
        links = [((1, 1), (5, 1)), ((1, 3), (2, 1)), ((2, 2), (3, 1)), ((4, 1), (5, 2))]
        self.assertEqual(list(tree(links)), [5, 2, 4, 3])

    def test_random(self):
        chance = random.Random(5)
        for _ in range(200):
            links = random_links(chance, links=chance.randrange(12))
            parents, far = tree(links), lengths(links)
            self.assertEqual(sorted([1, *parents]), reached(links, 1))
            for switch in parents:
                self.assertEqual(len(way(parents, switch)), far[switch])
                self.assertTrue(leads(links, way(parents, switch), switch))


class Ways(unittest.TestCase):
    def test_to_1(self):
        self.assertEqual((way({}, 1), way(tree(RING), 1)), ([], []))

    def test_to_others(self):
        parents = tree(BRANCHED)
        for to, ends in ((2, [(1, 1)]), (6, [(1, 2)]), (3, [(1, 1), (2, 2)]), (5, [(1, 1), (2, 3), (4, 2)])):
            self.assertEqual(way(parents, to), ends)

    def test_what_hangs(self):
        parents = tree(BRANCHED)
        for switch, hanging in ((1, [1, 2, 3, 4, 5, 6]), (2, [2, 3, 4, 5]), (4, [4, 5]), (3, [3]), (6, [6])):
            self.assertEqual(below(parents, switch), hanging)
        self.assertEqual((below({}, 1), below({}, 5), below(parents, 7)), ([1], [5], [7]))

    def test_what_hangs_in_any_order_of_the_dict(self):
        parents = {5: (4, 2), 4: (8, 3), 8: (1, 1), 2: (5, 1), 3: (1, 2)}
        self.assertEqual((below(parents, 8), below(parents, 3)), ([2, 4, 5, 8], [3]))

    def test_arguments_stay(self):
        parents, links = tree(BRANCHED), copy.deepcopy(BRANCHED)
        before = copy.deepcopy(parents)
        way(parents, 5).clear()
        below(parents, 2).clear()
        tree(links).clear()
        for ends in two_ways(links, 5):
            ends.clear()
        self.assertEqual((parents, links), (before, BRANCHED))


class TwoWays(unittest.TestCase):
    def test_both(self):
        self.assertEqual(two_ways(RING, 2), [[(1, 1)], [(1, 2), (4, 2), (3, 1)]])
        self.assertEqual(two_ways(RING, 3), [[(1, 1), (2, 2)], [(1, 2), (4, 2)]])
        self.assertEqual(two_ways(PARALLEL, 2), [[(1, 1)], [(1, 2)]])

    def test_first_alone(self):
        self.assertEqual(two_ways(PARALLEL, 3), [[(1, 1), (2, 3)]])
        self.assertEqual(two_ways(BRANCHED, 5), [[(1, 1), (2, 3), (4, 2)]])

    def test_no_way(self):
        self.assertEqual((two_ways([], 2), two_ways([((2, 1), (3, 1))], 3), two_ways(RING, 5)), ([], [], []))

    def test_to_1(self):
        # The empty way leads to 1, and with no link left out it does so again.
        self.assertEqual((two_ways([], 1), two_ways(RING, 1)), ([[], []], [[], []]))

    def test_random(self):
        chance = random.Random(6)
        seconds = 0
        for _ in range(200):
            links = random_links(chance, links=chance.randrange(14))
            for to in range(1, 9):
                ways = two_ways(links, to)
                self.assertEqual(bool(ways), to in reached(links, 1))
                if not ways:
                    continue
                self.assertEqual(ways[0], way(tree(links), to))
                rest = [link for link in links if link[0] not in ways[0] and link[1] not in ways[0]]
                self.assertEqual(len(ways) == 2, to in reached(rest, 1))
                if len(ways) == 2:
                    seconds += 1
                    self.assertEqual(ways[1], way(tree(rest), to))
        self.assertGreater(seconds, 100)


if __name__ == "__main__":
    unittest.main()
