import copy
import itertools
import random
import unittest

from hangbridge.errors import PolicyError
from hangbridge.policies import after, check, copied, does, link_policy, sets_field, test_holds as holds_in
from tests.policy_samples import Drawing, leads

STATE = (2, 3, 4, 5, 6)
FIELDS = ("switch", "port", "src", "dst", "kind")
BOUNDS = {"switch": (1, 8), "port": (0, 6), "src": (0, 15), "dst": (0, 15), "kind": (0, 15)}
YES, NO = ("all", []), ("any", [])
PASS, STOP = ("test", YES), ("test", NO)


def numbered(field, number):
    """Return STATE with a number in a field."""
    return tuple(number if name == field else old for name, old in zip(FIELDS, STATE))


class Checking(unittest.TestCase):
    def assertWrong(self, policy, way):
        before = copy.deepcopy(policy)
        with self.assertRaises(PolicyError) as caught:
            check(policy)
        self.assertEqual(caught.exception.way, way)
        self.assertIsInstance(caught.exception.way, tuple)
        self.assertEqual(policy, before)

    def test_policies(self):
        for policy in (
            PASS, STOP, ("sum", []), ("seq", []), ("star", ("sum", [])), ("test", ("not", NO)),
            ("seq", [("test", ("is", "dst", 5)), ("sum", [("set", "port", 1), ("star", ("set", "switch", 8))])]),
            ("test", ("any", [("all", [("not", ("is", "kind", 0))]), ("is", "port", 0)])),
        ):
            self.assertIsNone(check(policy))

    def test_numbers(self):
        for field in FIELDS:
            least, most = BOUNDS[field]
            for number in (least, most):
                self.assertIsNone(check(("test", ("is", field, number))))
                self.assertIsNone(check(("set", field, number)))
            for number in (least - 1, most + 1, -5, 1000):
                self.assertWrong(("test", ("is", field, number)), (0,))
                self.assertWrong(("set", field, number), ())

    def test_fields(self):
        for field in ("", "version", "Port", "ports", "header", "is"):
            self.assertWrong(("test", ("is", field, 1)), (0,))
            self.assertWrong(("set", field, 1), ())

    def test_other_first_items(self):
        for name in ("", "is", "not", "all", "any", "Test", "tests", "policy"):
            for rest in (("port", 1), ([],), (YES,)):
                self.assertWrong((name, *rest), ())
        for name in ("", "test", "set", "sum", "seq", "star", "Is"):
            for rest in (("port", 1), ([],), (YES,)):
                self.assertWrong(("test", (name, *rest)), (0,))

    def test_ways_into_policies(self):
        bad = ("set", "port", 7)
        self.assertWrong(("sum", [bad]), (0,))
        self.assertWrong(("sum", [PASS, STOP, bad]), (2,))
        self.assertWrong(("seq", [PASS, bad]), (1,))
        self.assertWrong(("star", bad), (0,))
        self.assertWrong(("star", ("seq", [PASS, ("sum", [PASS, ("star", ("star", bad))])])), (0, 1, 1, 0, 0))

    def test_ways_into_tests(self):
        bad = ("is", "port", 7)
        self.assertWrong(("test", ("not", bad)), (0, 0))
        self.assertWrong(("test", ("all", [YES, bad])), (0, 1))
        self.assertWrong(("test", ("any", [YES, NO, bad])), (0, 2))
        self.assertWrong(("seq", [PASS, ("test", ("not", ("any", [YES, ("all", [NO, ("not", bad)])])))]),
                         (1, 0, 0, 1, 1, 0))

    def test_first_of_several(self):
        bad, worse = ("set", "port", 7), ("sit", "port", 1)
        self.assertWrong(("sum", [PASS, bad, worse]), (1,))
        self.assertWrong(("sum", [("seq", [PASS, worse]), bad]), (0, 1))
        self.assertWrong(("sum", [("test", ("not", ("is", "src", 16))), bad]), (0, 0, 0))
        self.assertWrong(("any", [bad]), ())

    def test_not_a_part_behind_a_wrong_name(self):
        self.assertWrong(("sum", [PASS, ("more", [("set", "port", 7)])]), (1,))

    def test_deep(self):
        policy = ("set", "src", 15)
        for _ in range(60):
            policy = ("sum", [PASS, policy])
        self.assertIsNone(check(policy))
        policy = ("set", "src", 16)
        for _ in range(60):
            policy = ("sum", [PASS, policy])
        self.assertWrong(policy, (1,) * 60)


class Tests(unittest.TestCase):
    def test_is(self):
        for at, field in enumerate(FIELDS):
            for number in range(16):
                self.assertIs(holds_in(("is", field, number), STATE), number == STATE[at])

    def test_not(self):
        self.assertIs(holds_in(("not", ("is", "port", 3)), STATE), False)
        self.assertIs(holds_in(("not", ("is", "port", 4)), STATE), True)
        self.assertIs(holds_in(("not", ("not", ("is", "port", 3))), STATE), True)

    def test_all_and_any(self):
        yes, no = ("is", "port", 3), ("is", "port", 4)
        for tests in ([], [yes], [no], [yes, no], [no, yes], [yes, yes], [no, no], [yes, yes, no]):
            self.assertIs(holds_in(("all", tests), STATE), no not in tests)
            self.assertIs(holds_in(("any", tests), STATE), yes in tests)

    def test_nested(self):
        test = ("all", [("any", [NO, ("is", "src", 4)]), ("not", ("all", [YES, ("is", "dst", 4)]))])
        self.assertIs(holds_in(test, STATE), True)
        self.assertIs(holds_in(test, (2, 3, 4, 4, 6)), False)
        self.assertIs(holds_in(test, (2, 3, 5, 5, 6)), False)


class After(unittest.TestCase):
    def assertLeads(self, policy, *states):
        before = copy.deepcopy(policy)
        reached = after(policy, STATE)
        self.assertIsInstance(reached, list)
        self.assertEqual(sorted(reached), sorted(states))
        self.assertEqual(policy, before)

    def test_test(self):
        self.assertLeads(("test", ("is", "src", 4)), STATE)
        self.assertLeads(("test", ("is", "src", 5)))

    def test_set(self):
        for field in FIELDS:
            for number in (0, 1, 7):
                self.assertLeads(("set", field, number), numbered(field, number))

    def test_sum(self):
        self.assertLeads(("sum", []))
        self.assertLeads(("sum", [STOP, PASS, STOP]), STATE)
        self.assertLeads(("sum", [("set", "src", 1), ("set", "src", 4), ("set", "src", 1), PASS]),
                         numbered("src", 1), STATE)

    def test_seq(self):
        self.assertLeads(("seq", []), STATE)
        self.assertLeads(("seq", [("set", "src", 1), ("set", "src", 2)]), numbered("src", 2))
        self.assertLeads(("seq", [("set", "src", 1), ("test", ("is", "src", 4))]))
        self.assertLeads(("seq", [("test", ("is", "src", 4)), ("set", "src", 1)]), numbered("src", 1))
        both = ("sum", [("set", "dst", 1), ("set", "dst", 2)])
        self.assertLeads(("seq", [both, ("sum", [PASS, ("set", "kind", 0)])]),
                         (2, 3, 4, 1, 6), (2, 3, 4, 2, 6), (2, 3, 4, 1, 0), (2, 3, 4, 2, 0))
        self.assertLeads(("seq", [both, ("set", "dst", 9)]), numbered("dst", 9))
        self.assertLeads(("seq", [both, ("test", ("is", "dst", 2))]), numbered("dst", 2))

    def test_seq_with_a_part_that_leads_nowhere(self):
        for policies in ([STOP], [STOP, ("set", "src", 1)], [("set", "src", 1), STOP], [PASS, ("sum", []), PASS],
                         [STOP, ("star", PASS)]):
            self.assertLeads(("seq", policies))

    def test_star_ends_at_once(self):
        self.assertLeads(("star", STOP), STATE)
        self.assertLeads(("star", ("sum", [])), STATE)
        self.assertLeads(("star", ("seq", [("test", ("is", "src", 9)), ("set", "src", 8)])), STATE)

    def test_star_never_changes(self):
        for policy in (PASS, ("set", "src", 4), ("star", PASS), ("seq", [])):
            self.assertLeads(("star", policy), STATE)

    def test_star_of_several_turns(self):
        steps = [("seq", [("test", ("is", "dst", at)), ("set", "dst", at + 1)]) for at in range(15)]
        self.assertLeads(("star", ("sum", steps)), *[numbered("dst", at) for at in range(5, 16)])
        ring = [*steps, ("seq", [("test", ("is", "dst", 15)), ("set", "dst", 0)])]
        self.assertLeads(("star", ("sum", ring)), *[numbered("dst", at) for at in range(16)])

    def test_star_of_several_ways(self):
        two = ("sum", [("set", "src", 1), ("set", "dst", 1), ("set", "kind", 1)])
        self.assertLeads(("star", two), *itertools.product([2], [3], [4, 1], [5, 1], [6, 1]))

    def test_star_in_a_star_and_in_a_seq(self):
        one = ("seq", [("test", ("is", "src", 4)), ("set", "src", 5)])
        two = ("seq", [("test", ("is", "src", 5)), ("set", "src", 6)])
        self.assertLeads(("star", ("seq", [("star", one), two])), STATE, numbered("src", 6))
        self.assertLeads(("seq", [("star", one), ("star", two)]), *[numbered("src", at) for at in (4, 5, 6)])
        self.assertLeads(("seq", [("star", two), ("star", one)]), *[numbered("src", at) for at in (4, 5)])

    def test_each_once(self):
        policy = ("sum", [("seq", [("set", "src", 1), ("set", "dst", 1)]), ("seq", [("set", "dst", 1), ("set", "src", 1)])])
        self.assertLeads(policy, (2, 3, 1, 1, 6))
        self.assertLeads(("star", policy), STATE, (2, 3, 1, 1, 6))

    def test_random(self):
        chance = random.Random(8)
        numbers = {"switch": [1, 2], "port": [0, 1, 3], "src": [4, 5], "dst": [5], "kind": [0, 6, 15]}
        drawing = Drawing(chance, numbers, FIELDS)
        sizes = {}
        for _ in range(3000):
            policy = drawing.policy(4)
            expected = leads(policy, {STATE})
            self.assertLeads(policy, *expected)
            sizes[len(expected)] = True
        self.assertGreater(len(sizes), 5)


class Local(unittest.TestCase):
    def test_does_of_the_document(self):
        policy = ("sum", [("set", "port", 2), ("seq", [("test", ("is", "dst", 5)), ("set", "kind", 1)])])
        self.assertEqual(does(policy, 1, 3, (4, 5, 6)), [(2, (4, 5, 6)), (3, (4, 5, 1))])

    def test_nothing(self):
        self.assertEqual(does(STOP, 1, 3, (4, 5, 6)), [])

    def test_tests_of_the_switch(self):
        policy = ("sum", [("seq", [("test", ("is", "switch", at)), ("set", "port", at - 1)]) for at in range(1, 8)])
        for switch in range(1, 8):
            self.assertEqual(does(policy, switch, 6, (0, 0, 0)), [(switch - 1, (0, 0, 0))])
        self.assertEqual(does(policy, 8, 6, (0, 0, 0)), [])

    def test_tests_of_the_port(self):
        policy = ("seq", [("test", ("is", "port", 0)), ("set", "port", 4)])
        self.assertEqual(does(policy, 1, 0, (1, 2, 3)), [(4, (1, 2, 3))])
        self.assertEqual(does(policy, 1, 4, (1, 2, 3)), [])

    def test_ascending_each_once(self):
        policy = ("sum", [("set", "port", 6), ("set", "src", 9), PASS, ("set", "src", 0), ("set", "port", 0), PASS,
                          ("seq", [("set", "kind", 0), ("set", "kind", 6)])])
        self.assertEqual(does(policy, 1, 3, (4, 5, 6)), [
            (0, (4, 5, 6)), (3, (0, 5, 6)), (3, (4, 5, 6)), (3, (9, 5, 6)), (6, (4, 5, 6)),
        ])


class LinkPolicies(unittest.TestCase):
    def test_no_links(self):
        policy = link_policy(("graph", 3, []))
        self.assertIsNone(check(policy))
        self.assertEqual(after(policy, (1, 1, 0, 0, 0)), [])

    def test_everywhere(self):
        links = [((1, 1), (2, 6)), ((1, 2), (3, 1)), ((2, 1), (3, 2))]
        others = {one: other for link in links for one, other in (link, link[::-1])}
        policy = link_policy(("graph", 4, links))
        self.assertIsNone(check(policy))
        for switch in range(1, 9):
            for port in range(7):
                for header in ((0, 0, 0), (15, 3, 8)):
                    expected = [(*others[switch, port], *header)] if (switch, port) in others else []
                    self.assertEqual(after(policy, (switch, port, *header)), expected)
        self.assertEqual(links, [((1, 1), (2, 6)), ((1, 2), (3, 1)), ((2, 1), (3, 2))])


class Copies(unittest.TestCase):
    def test_copied(self):
        policy = ("seq", [("test", ("not", ("all", [("is", "src", 3)]))), ("star", ("sum", [("set", "port", 2)]))])
        before = copy.deepcopy(policy)
        other = copied(policy)
        self.assertEqual(other, policy)
        other[1][0][1][1][1].clear()
        other[1][1][1][1].clear()
        other[1].clear()
        self.assertEqual(policy, before)
        self.assertEqual(copied(("sum", [])), ("sum", []))
        self.assertEqual(copied(("test", ("any", []))), ("test", ("any", [])))


class Sets(unittest.TestCase):
    def test_each_field(self):
        for field in FIELDS:
            for other in FIELDS:
                self.assertIs(sets_field(("set", field, 1), other), field == other)
                self.assertIs(sets_field(("test", ("is", field, 1)), other), False)

    def test_within(self):
        inner = ("set", "switch", 3)
        for policy in (("sum", [PASS, inner]), ("seq", [inner, STOP]), ("star", inner),
                       ("seq", [PASS, ("sum", [("set", "port", 1), ("star", ("seq", [STOP, inner]))])])):
            self.assertIs(sets_field(policy, "switch"), True)
            self.assertIs(sets_field(policy, "src"), False)
        for policy in (("sum", []), ("seq", []), ("star", PASS), ("seq", [PASS, ("test", ("is", "switch", 3))])):
            self.assertIs(sets_field(policy, "switch"), False)


if __name__ == "__main__":
    unittest.main()
