import copy
import unittest

from hangbridge.graphs import check_graph, is_end, link_of, peer, reached

ROW = [((1, 1), (2, 1)), ((2, 2), (3, 1)), ((3, 6), (4, 6)), ((5, 1), (6, 1))]


class Ends(unittest.TestCase):
    def test_is_end(self):
        for end in [(1, 1), (1, 6), (3, 1), (3, 6)]:
            self.assertIs(is_end(3, end), True)
        for end in [(0, 1), (4, 1), (-1, 1), (1, 0), (1, 7), (1, -1), (0, 0), (3, 0), (4, 7)]:
            self.assertIs(is_end(3, end), False)
        self.assertIs(is_end(8, (8, 6)), True)
        self.assertIs(is_end(1, (2, 1)), False)

    def test_link_of(self):
        self.assertEqual(link_of((1, 2), (2, 1)), ((1, 2), (2, 1)))
        self.assertEqual(link_of((2, 1), (1, 2)), ((1, 2), (2, 1)))
        self.assertEqual(link_of((3, 6), (3, 2)), ((3, 2), (3, 6)))


class Graphs(unittest.TestCase):
    def assert_graph(self, count, links, right):
        graph = ("graph", count, links)
        kept = copy.deepcopy(graph)
        self.assertIs(check_graph(graph), right)
        self.assertEqual(graph, kept)

    def test_counts(self):
        for count, right in [(-1, False), (0, False), (1, True), (8, True), (9, False)]:
            self.assert_graph(count, [], right)

    def test_graphs(self):
        self.assert_graph(2, [((1, 1), (2, 1))], True)
        self.assert_graph(2, [((1, 6), (2, 6))], True)
        self.assert_graph(6, ROW, True)
        self.assert_graph(2, [((1, 1), (2, 2)), ((1, 2), (2, 1))], True)
        self.assert_graph(8, [((7, 6), (8, 6))], True)

    def test_text_aside(self):
        self.assertIs(check_graph(("other", 2, [((1, 1), (2, 1))])), True)

    def test_order(self):
        self.assert_graph(6, list(reversed(ROW)), False)
        self.assert_graph(2, [((1, 2), (2, 1)), ((1, 1), (2, 2))], False)

    def test_doubled_link(self):
        self.assert_graph(2, [((1, 1), (2, 1)), ((1, 1), (2, 1))], False)

    def test_greater_end_first(self):
        self.assert_graph(2, [((2, 1), (1, 1))], False)

    def test_two_ends_of_one_switch(self):
        self.assert_graph(2, [((1, 1), (1, 2))], False)
        self.assert_graph(2, [((1, 1), (1, 1))], False)

    def test_an_end_twice(self):
        self.assert_graph(3, [((1, 1), (2, 1)), ((1, 1), (3, 1))], False)
        self.assert_graph(3, [((1, 1), (3, 1)), ((2, 1), (3, 1))], False)
        self.assert_graph(3, [((1, 1), (2, 1)), ((2, 1), (3, 1))], False)

    def test_ports(self):
        for port, right in [(-1, False), (0, False), (1, True), (6, True), (7, False)]:
            self.assert_graph(2, [((1, port), (2, 1))], right)
            self.assert_graph(2, [((1, 1), (2, port))], right)

    def test_switches_that_are_not_there(self):
        self.assert_graph(2, [((1, 1), (3, 1))], False)
        self.assert_graph(2, [((0, 1), (1, 1))], False)
        self.assert_graph(2, [((3, 1), (4, 1))], False)


class Joining(unittest.TestCase):
    def test_peer(self):
        self.assertEqual(peer(ROW, (1, 1)), (2, 1))
        self.assertEqual(peer(ROW, (2, 1)), (1, 1))
        self.assertEqual(peer(ROW, (2, 2)), (3, 1))
        self.assertEqual(peer(ROW, (6, 1)), (5, 1))

    def test_no_peer(self):
        for end in [(1, 2), (2, 3), (7, 1), (1, 0)]:
            self.assertIsNone(peer(ROW, end))
        self.assertIsNone(peer([], (1, 1)))

    def test_reached(self):
        for switch in (1, 2, 3, 4):
            self.assertEqual(reached(ROW, switch), [1, 2, 3, 4])
            self.assertEqual(reached(list(reversed(ROW)), switch), [1, 2, 3, 4])
        for switch in (5, 6):
            self.assertEqual(reached(ROW, switch), [5, 6])

    def test_reached_alone(self):
        self.assertEqual(reached(ROW, 7), [7])
        self.assertEqual(reached([], 1), [1])

    def test_reached_in_a_ring(self):
        ring = [((1, 1), (2, 1)), ((1, 2), (3, 1)), ((2, 2), (3, 2))]
        for switch in (1, 2, 3):
            self.assertEqual(reached(ring, switch), [1, 2, 3])

    def test_arguments_stay(self):
        kept = copy.deepcopy(ROW)
        peer(ROW, (1, 1))
        reached(ROW, 1)
        self.assertEqual(ROW, kept)


if __name__ == "__main__":
    unittest.main()
