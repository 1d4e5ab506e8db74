import copy
import itertools
import random
import unittest

from hangbridge.compiling import (
    fits, paper_right, rules_for, shortened, table_difference, table_does, table_paper,
)
from hangbridge.errors import RoomError
from hangbridge.policies import does, leaves
from tests.policy_samples import Drawing

ANY = (None, None, None, None)
SAME = (None, None, None)
PASS, STOP = ("test", ("all", [])), ("test", ("any", []))
# Every fifth place still has each pair of numbers of two fields.
SOME = 5
EVERYWHERE = [(port, header) for port in range(7) for header in itertools.product(range(16), repeat=3)]


def when(field, number):
    return ("test", ("is", field, number))


def unless(field, number):
    return ("test", ("not", ("is", field, number)))


def to_port(port, *tests):
    """Return the policy that sets a port where all tests hold."""
    return ("seq", [*tests, ("set", "port", port)])


def each_pair(pairs):
    """Return the policy that does something of its own for each of some pairs of src and dst."""
    return ("sum", [
        ("seq", [when("src", src), when("dst", dst), ("set", "port", at % 7), ("set", "kind", at // 7)])
        for at, (src, dst) in enumerate(pairs)
    ])


def first_does(rules, port, header):
    """Return what the document says that a table does."""
    for match, outs in rules:
        if all(asked in (None, number) for asked, number in zip(match, (port, *header))):
            return sorted({
                (out, tuple(old if new is None else new for old, new in zip(header, changes))) for out, changes in outs
            })
    return []


def small_rules(chance, many):
    """Return a random table over few numbers."""
    rules = []
    for _ in range(chance.randrange(many + 1)):
        match = tuple(chance.choice([None, None, 0, 1]) for _ in range(4))
        outs = [(chance.randrange(2), tuple(chance.choice([None, None, 0, 1]) for _ in range(3)))
                for _ in range(chance.randrange(3))]
        rules.append((match, outs))
    return rules


SMALL = [(port, header) for port in range(3) for header in itertools.product(range(3), repeat=3)]


class Tables(unittest.TestCase):
    def test_fits(self):
        for match, right in (
            (ANY, True), ((3, 4, 5, 6), True), ((3, None, None, None), True), ((2, None, None, None), False),
            ((None, 4, None, None), True), ((None, 3, None, None), False), ((None, None, 5, None), True),
            ((None, None, 4, None), False), ((None, None, None, 6), True), ((None, None, None, 5), False),
            ((3, 4, 5, 5), False), ((0, None, None, None), False),
        ):
            self.assertIs(fits(match, 3, (4, 5, 6)), right)
        self.assertIs(fits((0, 0, 0, 0), 0, (0, 0, 0)), True)

    def test_table_does(self):
        rules = [((None, 4, None, None), []), ((1, None, None, None), [(3, SAME), (2, (None, 9, None)), (3, SAME)]),
                 ((None, None, 5, 6), [(0, (1, 2, 3))])]
        before = copy.deepcopy(rules)
        self.assertEqual(table_does(rules, 1, (4, 5, 6)), [])
        self.assertEqual(table_does(rules, 1, (3, 5, 6)), [(2, (3, 9, 6)), (3, (3, 5, 6))])
        self.assertEqual(table_does(rules, 2, (3, 5, 6)), [(0, (1, 2, 3))])
        self.assertEqual(table_does(rules, 2, (3, 5, 7)), [])
        self.assertEqual(table_does([], 2, (3, 5, 7)), [])
        table_does(rules, 1, (3, 5, 6)).clear()
        self.assertEqual(rules, before)

    def test_random(self):
        chance = random.Random(3)
        for _ in range(300):
            rules = small_rules(chance, 6)
            for port, header in SMALL:
                self.assertEqual(table_does(rules, port, header), first_does(rules, port, header))


class RulesFor(unittest.TestCase):
    def assertDoes(self, policy, switch, places=None):
        """Check all that is promised of the table of a policy at a switch; return it."""
        before = copy.deepcopy(policy)
        rules = rules_for(policy, switch)
        self.assertEqual(policy, before)
        self.assertEqual(rules, rules_for(copy.deepcopy(policy), switch))
        for port, header in places or EVERYWHERE[::SOME]:
            self.assertEqual(first_does(rules, port, header), does(policy, switch, port, header))
        tests = [leaf for leaf in leaves(policy) if leaf[0] == "is"]
        most = 7
        for field in ("src", "dst", "kind"):
            most *= len({leaf[2] for leaf in tests if leaf[1] == field}) + 1
        self.assertLessEqual(len(rules), most)
        for at in range(len(rules)):
            self.assertIsNotNone(table_difference(rules, rules[:at] + rules[at + 1:]))
        self.assertNotIn(None, table_paper(rules))
        return rules

    def test_of_the_document(self):
        rules = self.assertDoes(("seq", [("test", ("not", ("is", "dst", 3))), ("set", "port", 2)]), 1)
        self.assertEqual(rules, [((None, None, 3, None), []), ((None, None, None, None), [(2, (None, None, None))])])

    def test_no_rule(self):
        for policy in (STOP, ("sum", []), ("seq", [STOP, ("set", "port", 1)]), ("seq", [when("src", 1), when("src", 2)])):
            self.assertEqual(self.assertDoes(policy, 1), [])

    def test_one_rule(self):
        self.assertEqual(self.assertDoes(("set", "port", 2), 1), [(ANY, [(2, SAME)])])
        rules = self.assertDoes(("seq", [("set", "port", 0), ("sum", [("set", "kind", 9), PASS, ("set", "src", 0)])]), 1)
        self.assertEqual(rules, [(ANY, [(0, SAME), (0, (None, None, 9)), (0, (0, None, None))])])
        self.assertEqual(self.assertDoes(to_port(2, when("src", 3)), 1), [((None, 3, None, None), [(2, SAME)])])

    def test_ports(self):
        self.assertEqual(len(self.assertDoes(PASS, 1)), 7)
        self.assertEqual(self.assertDoes(to_port(2, when("port", 6)), 1), [((6, None, None, None), [(2, SAME)])])
        self.assertEqual(len(self.assertDoes(to_port(2, unless("port", 6)), 1)), 2)

    def test_tests_of_the_switch(self):
        policy = ("sum", [to_port(1, when("switch", 1), when("dst", 1)), to_port(2, when("switch", 2))])
        self.assertEqual(self.assertDoes(policy, 1), [((None, None, 1, None), [(1, SAME)])])
        self.assertEqual(self.assertDoes(policy, 2), [(ANY, [(2, SAME)])])
        self.assertEqual(self.assertDoes(policy, 3), [])

    def test_some_numbers_alone(self):
        policy = ("sum", [to_port(dst % 7, when("dst", dst)) for dst in range(16)])
        self.assertLessEqual(len(self.assertDoes(policy, 1)), 16)
        for field in ("src", "dst", "kind"):
            every = ("test", ("any", [("is", field, number) for number in range(16)]))
            self.assertEqual(self.assertDoes(to_port(2, every), 1), [(ANY, [(2, SAME)])])

    def test_all_numbers_named_but_little_done(self):
        pairs = [(number, number) for number in range(16)]
        self.assertEqual(len(self.assertDoes(each_pair(pairs), 1)), 16)
        ports = [("seq", [when("port", port), when("src", port), ("set", "port", 6 - port)]) for port in range(7)]
        self.assertEqual(len(self.assertDoes(("sum", ports), 1)), 7)

    def test_ports_that_are_named_and_kept(self):
        policy = ("seq", [("sum", [when("port", 4), when("dst", 2)]), ("sum", [PASS, ("set", "port", 1)])])
        rules = self.assertDoes(policy, 1)
        self.assertEqual(table_does(rules, 4, (0, 0, 0)), [(1, (0, 0, 0)), (4, (0, 0, 0))])
        self.assertEqual(table_does(rules, 5, (0, 2, 0)), [(1, (0, 2, 0)), (5, (0, 2, 0))])
        self.assertEqual(len(rules), 7)

    def test_what_is_set_to_a_number_that_no_test_names(self):
        sets = [("set", "src", number) for number in range(1, 16)]
        policy = ("seq", [when("src", 0), ("set", "port", 1), ("sum", sets[:8])])
        self.assertEqual(len(self.assertDoes(policy, 1)), 1)
        # Each number of the field stands in the policy, but only 0 in a test.
        policy = ("seq", [unless("src", 0), ("set", "port", 1), ("sum", [*sets, PASS])])
        self.assertEqual(len(self.assertDoes(policy, 1)), 2)

    def test_set_and_test_again(self):
        policy = ("seq", [("set", "src", 3), when("src", 3), ("set", "port", 1), ("sum", [PASS, when("src", 4)])])
        self.assertEqual(self.assertDoes(policy, 1), [(ANY, [(1, (3, None, None))])])
        policy = ("seq", [("star", ("seq", [when("dst", 1), ("set", "dst", 2)])), ("set", "port", 3)])
        self.assertEqual(len(self.assertDoes(policy, 1)), 2)

    def test_a_set_that_changes_nothing_needs_no_rule(self):
        policy = ("seq", [("set", "port", 1), ("sum", [("seq", [when("src", 3), ("set", "dst", 5)]),
                                                       ("seq", [unless("src", 3), ("set", "dst", 5)])])])
        self.assertEqual(self.assertDoes(policy, 1), [(ANY, [(1, (None, 5, None))])])

    def test_a_field_that_goes_over_others(self):
        # The rule for the kind stands once, and not with each dst.
        policy = ("sum", [to_port(6, when("kind", 1)),
                          *[to_port(dst % 6, unless("kind", 1), when("dst", dst)) for dst in range(15)]])
        self.assertEqual(len(self.assertDoes(policy, 1, EVERYWHERE[::37])), 16)

    def test_forty_rules(self):
        pairs = [(src, dst) for src in range(8) for dst in range(5)]
        self.assertEqual(len(self.assertDoes(each_pair(pairs), 1, EVERYWHERE[::23])), 40)

    def test_more_than_forty_rules(self):
        pairs = [(src, dst) for src in range(8) for dst in range(5)]
        for more, switch in (([(8, 0)], 1), ([(0, 5)], 8), ([(9, 9), (10, 10)], 5)):
            with self.assertRaises(RoomError) as caught:
                rules_for(each_pair(pairs + more), switch)
            self.assertEqual(caught.exception.place, switch)

    def test_more_than_forty_rules_at_one_switch(self):
        pairs = [(src, dst) for src in range(7) for dst in range(6)]
        policy = ("seq", [when("switch", 3), each_pair(pairs)])
        self.assertEqual((rules_for(policy, 2), rules_for(policy, 4)), ([], []))
        with self.assertRaises(RoomError) as caught:
            rules_for(policy, 3)
        self.assertEqual(caught.exception.place, 3)

    def test_many_numbers_but_few_rules(self):
        # 16 * 16 pairs are named, of which all but one are treated alike.
        tests = [("all", [("is", "src", src), ("is", "dst", dst)]) for src in range(16) for dst in range(16)]
        rules = self.assertDoes(to_port(2, ("test", ("any", tests[1:]))), 1, EVERYWHERE[::11] + EVERYWHERE[:20])
        self.assertEqual(rules, [((None, 0, 0, None), []), (ANY, [(2, SAME)])])

    def test_what_is_returned_is_its_own(self):
        policy = to_port(2, when("src", 3))
        rules_for(policy, 1).clear()
        rules_for(policy, 1)[0][1].clear()
        self.assertEqual(rules_for(policy, 1), [((None, 3, None, None), [(2, SAME)])])

    def test_random(self):
        chance = random.Random(4)
        numbers = {"switch": [1, 2], "port": [0, 3], "src": [0, 7], "dst": [15], "kind": [1, 2]}
        drawing = Drawing(chance, numbers, ("port", "src", "dst", "kind"))
        lengths = {}
        for _ in range(250):
            policy = drawing.policy(3)
            header = [(0, 1, 7, 15), (0, 14, 15), (0, 1, 2, 3)]
            places = [(port, place) for port in range(7) for place in itertools.product(*header)]
            try:
                lengths[len(self.assertDoes(policy, 1, places))] = True
            except RoomError as error:
                self.assertEqual(error.place, 1)
        self.assertGreater(len(lengths), 6)

    def test_random_everywhere(self):
        chance = random.Random(5)
        numbers = {"switch": [1], "port": [6], "src": [3], "dst": [0, 9], "kind": [15]}
        drawing = Drawing(chance, numbers, ("port", "src", "dst", "kind"))
        for _ in range(4):
            self.assertDoes(("seq", [drawing.policy(2), ("set", "port", 1), drawing.policy(2)]), 1, EVERYWHERE)


class Differences(unittest.TestCase):
    def assertDiffer(self, rules, other, *places):
        before = copy.deepcopy((rules, other))
        for one, two in ((rules, other), (other, rules)):
            place = table_difference(one, two)
            self.assertIn(place, places or [None])
            if place is not None:
                self.assertNotEqual(first_does(one, *place), first_does(two, *place))
        self.assertEqual((rules, other), before)

    def test_equal(self):
        rules = [((None, 1, None, None), [(2, SAME)])]
        for one, other in (
            ([], []), ([], [(ANY, [])]), (rules, copy.deepcopy(rules)), (rules, rules + rules),
            (rules, [((port, 1, None, None), [(2, SAME)]) for port in range(7)]),
            (rules, [((None, 1, None, None), [(2, (1, None, None)), (2, SAME)])]),
            ([(ANY, [(1, SAME), (2, SAME)])], [(ANY, [(2, SAME), (1, SAME), (1, SAME)])]),
            ([(ANY, [(1, SAME)])], [((None, None, None, kind), [(1, SAME)]) for kind in range(16)]),
        ):
            self.assertDiffer(one, other)

    def test_at_one_place_alone(self):
        for place in ((0, (0, 0, 0)), (6, (15, 15, 15)), (3, (4, 5, 6))):
            exact = (place[0], *place[1])
            self.assertDiffer([(exact, [(1, SAME)])], [], place)
            self.assertDiffer([(exact, []), (ANY, [(1, SAME)])], [(ANY, [(1, SAME)])], place)
            self.assertDiffer([(exact, [(1, SAME)])], [(exact, [(1, SAME), (2, SAME)])], place)
            self.assertDiffer([(exact, [(1, SAME)])], [(exact, [(1, (0, 4, 15))])], place)

    def test_at_a_number_that_neither_names(self):
        rules = [((None, None, dst, None), [(1, SAME)]) for dst in range(15)]
        self.assertEqual(table_difference(rules, [(ANY, [(1, SAME)])])[1][1], 15)
        self.assertEqual(table_difference([(ANY, [(1, (None, 0, None))])], [(ANY, [(1, SAME)])])[1][1], 1)
        self.assertEqual(table_difference([((port, None, None, None), []) for port in range(6)] + [(ANY, [(1, SAME)])],
                                          [])[0], 6)

    def test_random(self):
        chance = random.Random(9)
        equal = 0
        for _ in range(600):
            rules = small_rules(chance, 4)
            other = small_rules(chance, 4) if chance.random() < 0.5 else shortened(rules)
            place = table_difference(rules, other)
            told = [place for place in SMALL if first_does(rules, *place) != first_does(other, *place)]
            self.assertEqual(place is None, not told)
            if place is not None:
                self.assertNotEqual(first_does(rules, *place), first_does(other, *place))
            equal += place is None
        self.assertGreater(equal, 100)
        self.assertLess(equal, 500)


class Shortened(unittest.TestCase):
    def assertShort(self, rules, expected=None):
        before = copy.deepcopy(rules)
        short = shortened(rules)
        self.assertEqual(rules, before)
        if expected is not None:
            self.assertEqual(short, expected)
        rest = iter(rules)
        self.assertTrue(all(rule in rest for rule in short), "a part in its order")
        self.assertIsNone(table_difference(rules, short))
        for at in range(len(short)):
            self.assertIsNotNone(table_difference(short, short[:at] + short[at + 1:]))
        return short

    def test_what_stays(self):
        for rules in ([], [(ANY, [(1, SAME)])], [((1, None, None, None), []), (ANY, [(1, SAME)])]):
            self.assertShort(rules, rules)

    def test_what_does_nothing_last(self):
        self.assertShort([(ANY, [])], [])
        rule = ((None, 1, None, None), [(1, SAME)])
        self.assertShort([rule, ((None, None, 2, None), []), (ANY, [])], [rule])

    def test_what_is_hidden(self):
        first = (ANY, [(1, SAME)])
        self.assertShort([first, ((1, 2, 3, 4), [(2, SAME)]), (ANY, [])], [first])
        ports = [((port, None, None, None), [(port, SAME)]) for port in range(7)]
        self.assertShort([*ports, (ANY, [(1, SAME)])], ports)

    def test_what_the_next_one_does_too(self):
        wide = (ANY, [(1, SAME)])
        self.assertShort([((None, 1, None, None), [(1, SAME)]), wide], [wide])
        self.assertShort([((None, 1, None, None), [(1, (1, None, None))]), wide], [wide])
        stop = ((None, 1, 1, None), [])
        self.assertShort([((None, 1, 2, None), [(1, SAME)]), stop, wide], [stop, wide])

    def test_what_is_needed_only_with_another_one(self):
        # The first rule is needed only as long as the second one, which is hidden, is there.
        wide = (ANY, [(1, SAME)])
        exact = (1, None, None, None)
        self.assertShort([(exact, [(1, SAME)]), (exact, [(2, SAME)]), wide], [wide])

    def test_what_is_returned_is_its_own(self):
        rules = [(ANY, [(1, SAME)])]
        shortened(rules)[0][1].clear()
        shortened(rules).clear()
        self.assertEqual(rules, [(ANY, [(1, SAME)])])

    def test_random(self):
        chance = random.Random(10)
        lengths = {}
        for _ in range(500):
            lengths[len(self.assertShort(small_rules(chance, 7)))] = True
        self.assertGreater(len(lengths), 4)


class Papers(unittest.TestCase):
    RULES = [((None, 1, None, None), []), (ANY, [(1, SAME)])]

    def test_right_ones(self):
        self.assertIs(paper_right([], []), True)
        for first in ((0, (1, 0, 0)), (6, (1, 15, 15))):
            for second in ((0, (0, 0, 0)), (3, (2, 1, 1))):
                self.assertIs(paper_right(self.RULES, [first, second]), True)

    def test_wrong_ones(self):
        first, second = (0, (1, 0, 0)), (0, (0, 0, 0))
        for paper in ([], [first], [first, second, second], [second, first], [None, second], [first, None],
                      [None, None], [first, first], [second, second], [first, second, None]):
            self.assertIs(paper_right(self.RULES, paper), False)
        self.assertIs(paper_right([], [first]), False)
        self.assertIs(paper_right([], [None]), False)
        self.assertIs(paper_right([(ANY, [])], [first]), False)
        self.assertIs(paper_right([(ANY, [])], []), False)

    def test_places_at_which_nothing_changes(self):
        # Without the first rule, the second one does the same for src 1 and dst 2, and something else for other dst.
        rules = [((None, 1, None, None), [(1, SAME)]), ((None, None, 2, None), [(1, SAME)])]
        right = [(0, (1, 0, 0)), (0, (0, 2, 0))]
        self.assertIs(paper_right(rules, right), True)
        self.assertIs(paper_right(rules, [(0, (1, 2, 0)), right[1]]), False)
        self.assertIs(paper_right(rules, [right[0], (0, (1, 2, 0))]), False)

    def test_arguments_stay(self):
        paper = [(0, (1, 0, 0)), (0, (0, 0, 0))]
        before = copy.deepcopy((self.RULES, paper))
        paper_right(self.RULES, paper)
        table_paper(self.RULES).clear()
        self.assertEqual((self.RULES, paper), before)

    def test_papers_of_tables(self):
        self.assertEqual(table_paper([]), [])
        self.assertTrue(paper_right(self.RULES, table_paper(self.RULES)))
        self.assertEqual(table_paper([(ANY, [])]), [None])
        # Each of two equal rules can be left out, as long as the other one stays.
        self.assertEqual(table_paper([(ANY, [(1, SAME)])] * 2), [None, None])
        paper = table_paper([*self.RULES, (ANY, [(2, SAME)])])
        self.assertEqual([place is None for place in paper], [False, False, True])

    def test_random(self):
        chance = random.Random(11)
        right = 0
        for _ in range(500):
            rules = small_rules(chance, 5)
            paper = table_paper(rules)
            self.assertEqual(len(paper), len(rules))
            for at, place in enumerate(paper):
                rest = rules[:at] + rules[at + 1:]
                changes = [place for place in SMALL if first_does(rules, *place) != first_does(rest, *place)]
                self.assertEqual(place is None, not changes)
                if place is not None:
                    self.assertNotEqual(first_does(rules, *place), first_does(rest, *place))
            self.assertIs(paper_right(rules, paper), None not in paper)
            right += None not in paper
            self.assertTrue(paper_right(shortened(rules), table_paper(shortened(rules))))
        self.assertGreater(right, 50)


if __name__ == "__main__":
    unittest.main()
