import copy
import unittest

from hangbridge.tables import Table, done, fits

ANY = (None, None, None, None)
SAME = (None, None, None)
OUTS = [(1, SAME)]


def filled(ways, rules, version=1):
    table = Table()
    for to in range(ways):
        table.lay(to, 1)
    for at in range(rules):
        table.add(version, (None, None, None, at), OUTS)
    return table


class Rules(unittest.TestCase):
    def test_fits(self):
        for match, right in [
            (ANY, True), ((3, 4, 5, 6), True), ((3, None, None, None), True), ((None, 4, None, None), True),
            ((None, None, 5, None), True), ((None, None, None, 6), True), ((2, None, None, None), False),
            ((None, 3, None, None), False), ((None, None, 4, None), False), ((None, None, None, 5), False),
            ((3, 4, 5, 5), False), ((4, 4, 5, 6), False), ((0, None, None, None), False),
        ]:
            self.assertIs(fits(match, 3, (4, 5, 6)), right)

    def test_fits_zero(self):
        self.assertIs(fits((0, 0, 0, 0), 0, (0, 0, 0)), True)
        self.assertIs(fits((0, 0, 0, 0), 0, (0, 0, 1)), False)
        self.assertIs(fits(ANY, 0, (0, 0, 0)), True)

    def test_done(self):
        self.assertEqual(done([], (4, 5, 6)), [])
        self.assertEqual(done([(2, SAME)], (4, 5, 6)), [(2, (4, 5, 6))])
        self.assertEqual(done([(2, (1, 2, 3))], (4, 5, 6)), [(2, (1, 2, 3))])
        self.assertEqual(done([(0, (0, None, 0))], (4, 5, 6)), [(0, (0, 5, 0))])

    def test_done_in_order(self):
        outs = [(4, SAME), (2, (9, None, None)), (2, (None, None, 0)), (0, SAME)]
        self.assertEqual(done(outs, (4, 5, 6)), [(0, (4, 5, 6)), (2, (4, 5, 0)), (2, (9, 5, 6)), (4, (4, 5, 6))])

    def test_done_each_once(self):
        outs = [(2, SAME), (2, (4, None, None)), (1, SAME), (2, SAME)]
        self.assertEqual(done(outs, (4, 5, 6)), [(1, (4, 5, 6)), (2, (4, 5, 6))])
        self.assertEqual(done(outs, (3, 5, 6)), [(1, (3, 5, 6)), (2, (3, 5, 6)), (2, (4, 5, 6))])

    def test_arguments_stay(self):
        outs = [(4, SAME), (2, SAME)]
        done(outs, (4, 5, 6)).append("x")
        self.assertEqual(outs, [(4, SAME), (2, SAME)])


class Tables(unittest.TestCase):
    def test_new_table(self):
        table = Table()
        self.assertEqual((table.ways, table.rules, table.tag, table.count()), ({}, {}, 0, 0))

    def test_add(self):
        table = Table()
        self.assertIs(table.add(2, ANY, OUTS), True)
        self.assertIs(table.add(2, (1, None, None, None), []), True)
        self.assertIs(table.add(1, ANY, []), True)
        self.assertEqual(table.rules, {2: [(ANY, OUTS), ((1, None, None, None), [])], 1: [(ANY, [])]})
        self.assertEqual(table.count(), 3)

    def test_lay_and_unlay(self):
        table = Table()
        self.assertIs(table.lay(0, 3), True)
        self.assertIs(table.lay(2, 4), True)
        self.assertIs(table.lay(0, 5), True)
        self.assertEqual((table.ways, table.count()), ({0: 5, 2: 4}, 2))
        table.unlay(0)
        table.unlay(7)
        self.assertEqual((table.ways, table.count()), ({2: 4}, 1))

    def test_room_for_rules(self):
        table = filled(5, 58)
        self.assertIs(table.add(2, ANY, OUTS), True)
        self.assertEqual(table.count(), 64)
        for version in (1, 2):
            self.assertIs(table.add(version, ANY, OUTS), False)
        self.assertEqual((table.count(), len(table.rules[1]), len(table.rules[2])), (64, 58, 1))

    def test_room_for_ways(self):
        table = filled(5, 58)
        self.assertIs(table.lay(7, 1), True)
        self.assertIs(table.lay(8, 1), False)
        self.assertNotIn(8, table.ways)
        self.assertEqual(table.count(), 64)

    def test_a_way_is_changed_in_a_full_table(self):
        table = filled(5, 59)
        self.assertIs(table.lay(3, 6), True)
        self.assertEqual((table.ways[3], table.count()), (6, 64))

    def test_room_again(self):
        for make in (lambda table: table.unlay(0), lambda table: table.drop(2), lambda table: table.wipe()):
            table = filled(5, 58)
            table.add(2, ANY, OUTS)
            make(table)
            self.assertIs(table.add(3, ANY, OUTS), True)

    def test_rules_without_outs_take_room(self):
        table = Table()
        self.assertEqual([table.add(1, ANY, []) for _ in range(65)], [True] * 64 + [False])

    def test_added_without_room(self):
        table = filled(5, 59)
        self.assertIs(table.add(7, ANY, OUTS), False)
        # A version that was added is among the rules, though it has none.
        self.assertEqual(sorted(table.rules), [1, 7])
        self.assertEqual(table.rules[7], [])
        self.assertEqual(table.does(7, 1, (0, 0, 0)), [])
        self.assertEqual(table.count(), 64)

    def test_drop(self):
        table = filled(2, 3)
        table.add(2, ANY, OUTS)
        table.retag(2, 1)
        table.drop(1)
        table.drop(9)
        self.assertEqual((table.rules, table.ways, table.tag), ({2: [(ANY, OUTS)]}, {0: 1, 1: 1}, 2))
        self.assertEqual(table.count(), 3)

    def test_wipe(self):
        table = filled(2, 3)
        table.retag(1, 3)
        table.wipe()
        self.assertEqual((table.ways, table.rules, table.tag, table.count()), ({}, {}, 0, 0))

    def test_retag(self):
        table = filled(2, 3)
        for count in (0, 2, 4):
            self.assertIs(table.retag(1, count), False)
            self.assertEqual(table.tag, 0)
        self.assertIs(table.retag(1, 3), True)
        self.assertEqual((table.tag, table.count()), (1, 5))

    def test_retag_without_rules(self):
        table = filled(2, 3)
        table.retag(1, 3)
        self.assertIs(table.retag(5, 1), False)
        self.assertEqual(table.tag, 1)
        self.assertIs(table.retag(5, 0), True)
        self.assertEqual(table.tag, 5)
        self.assertNotIn(5, table.rules)
        self.assertIs(table.retag(0, 0), True)
        self.assertEqual((table.tag, len(table.ways), len(table.rules[1])), (0, 2, 3))

    def test_strip(self):
        table = filled(2, 3)
        rows = copy.deepcopy(table.rules[1])
        table.add(2, ANY, OUTS)
        table.retag(1, 3)
        table.strip()
        self.assertEqual((table.ways, table.rules, table.tag), ({}, {1: rows}, 1))

    def test_strip_without_a_tag(self):
        table = filled(2, 3)
        table.strip()
        self.assertEqual((table.ways, table.rules, table.tag), ({}, {}, 0))

    def test_keep(self):
        table = filled(2, 3)
        rows = copy.deepcopy(table.rules[1])
        table.add(2, ANY, OUTS)
        self.assertIs(table.keep(1, 2), False)
        self.assertEqual((table.tag, table.count()), (0, 6))
        self.assertIs(table.keep(1, 3), True)
        self.assertEqual((table.ways, table.rules, table.tag), ({}, {1: rows}, 1))

    def test_keep_without_rules(self):
        table = filled(2, 3)
        table.retag(1, 3)
        self.assertIs(table.keep(5, 1), False)
        self.assertEqual((table.tag, table.count()), (1, 5))
        self.assertIs(table.keep(5, 0), True)
        self.assertEqual((table.ways, table.rules, table.tag), ({}, {}, 5))

    def test_added_and_then_not(self):
        table = filled(0, 2)
        table.drop(1)
        self.assertEqual(table.rules, {})
        self.assertEqual(table.does(1, 1, (0, 0, 0)), [])
        self.assertIs(table.retag(1, 2), False)
        self.assertIs(table.retag(1, 0), True)
        table.add(1, ANY, OUTS)
        self.assertEqual(table.rules, {1: [(ANY, OUTS)]})

    def test_does(self):
        table = Table()
        table.add(1, (3, None, None, None), [(1, (9, None, None))])
        table.add(1, (None, None, 5, None), [])
        table.add(1, ANY, [(6, SAME), (2, SAME)])
        table.add(2, ANY, [(4, SAME)])
        self.assertEqual(table.does(1, 3, (4, 5, 6)), [(1, (9, 5, 6))])
        self.assertEqual(table.does(1, 2, (4, 5, 6)), [])
        self.assertEqual(table.does(1, 2, (4, 4, 6)), [(2, (4, 4, 6)), (6, (4, 4, 6))])
        self.assertEqual(table.does(2, 3, (4, 5, 6)), [(4, (4, 5, 6))])

    def test_does_nothing(self):
        table = Table()
        table.add(1, (3, None, None, None), OUTS)
        self.assertEqual(table.does(1, 2, (4, 5, 6)), [])
        self.assertEqual(table.does(9, 3, (4, 5, 6)), [])
        self.assertEqual(table.does(0, 3, (4, 5, 6)), [])

    def test_shares_nothing(self):
        outs = [(1, SAME)]
        table = Table()
        table.add(1, ANY, outs)
        outs.append((2, SAME))
        self.assertEqual(table.rules, {1: [(ANY, [(1, SAME)])]})
        table.does(1, 1, (0, 0, 0)).append("x")
        self.assertEqual(table.does(1, 1, (0, 0, 0)), [(1, (0, 0, 0))])
        table.rules[1][0][1].append("x")
        self.assertEqual(outs, [(1, SAME), (2, SAME)])
        self.assertEqual(Table().rules, {})


if __name__ == "__main__":
    unittest.main()
