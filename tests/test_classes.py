import copy
import itertools
import random
import unittest

from hangbridge.classes import all_states, difference, named_numbers, samples
from hangbridge.policies import FIELD_BOUNDS, after
from tests.policy_samples import Drawing, leads

FIELDS = ("switch", "port", "src", "dst", "kind")
PASS, STOP = ("test", ("all", [])), ("test", ("any", []))


def when(field, number):
    return ("test", ("is", field, number))


def unless(field, number):
    return ("test", ("not", ("is", field, number)))


class Numbers(unittest.TestCase):
    def test_named_numbers(self):
        policies = [
            ("seq", [when("src", 9), ("set", "src", 3), ("star", ("sum", [("set", "src", 3), when("dst", 1)]))]),
            ("test", ("not", ("all", [("is", "src", 0), ("any", [("is", "src", 15), ("is", "kind", 7)])]))),
        ]
        before = copy.deepcopy(policies)
        for field, numbers in (("src", [0, 3, 9, 15]), ("dst", [1]), ("kind", [7]), ("port", []), ("switch", [])):
            self.assertEqual(named_numbers(policies, field), numbers)
        self.assertEqual(named_numbers(policies[:1], "src"), [3, 9])
        self.assertEqual((named_numbers([], "src"), named_numbers([PASS, STOP], "src")), ([], []))
        self.assertEqual(policies, before)

    def test_samples_of_nothing(self):
        self.assertEqual(samples([]), [[1], [0], [0], [0], [0]])
        self.assertEqual(samples([PASS, STOP]), [[1], [0], [0], [0], [0]])

    def test_least_other_number(self):
        for named, row in (([5], [0, 5]), ([0], [0, 1]), ([1, 0], [0, 1, 2]), ([0, 1, 3], [0, 1, 2, 3]),
                           ([15], [0, 15]), (list(range(15)), list(range(16))), (list(range(16)), list(range(16)))):
            policy = ("sum", [("set", "dst", number) for number in named])
            self.assertEqual(samples([policy]), [[1], [0], [0], row, [0]])
            policy = ("test", ("any", [("is", "dst", number) for number in named]))
            self.assertEqual(samples([policy]), [[1], [0], [0], row, [0]])

    def test_bounds_of_each_field(self):
        for at, field in enumerate(FIELDS):
            least, most = FIELD_BOUNDS[at]
            for named, row in (([least], [least, least + 1]), ([most], [least, most])):
                rows = samples([("set", field, number) for number in named])
                self.assertEqual(rows[at], row)
            every = list(range(least, most + 1))
            self.assertEqual(samples([("set", field, number) for number in every[::-1]])[at], every)
            self.assertEqual(samples([("set", field, number) for number in every[1:]])[at], every)

    def test_samples_of_several(self):
        self.assertEqual(samples([when("switch", 3), ("seq", [("set", "port", 0), when("switch", 1)]), unless("kind", 4)]),
                         [[1, 2, 3], [0, 1], [0], [0], [0, 4]])


class States(unittest.TestCase):
    def test_all_states(self):
        rows = [[1, 3], [0, 6], [2], [0, 1, 15], [7]]
        self.assertEqual(all_states(rows), sorted(itertools.product(*rows)))
        self.assertEqual(all_states([[1], [0], [0], [0], [0]]), [(1, 0, 0, 0, 0)])
        self.assertEqual(all_states([[1], [0], [], [0], [0]]), [])
        self.assertEqual(rows, [[1, 3], [0, 6], [2], [0, 1, 15], [7]])


class Differences(unittest.TestCase):
    def assertEqualPolicies(self, one, other):
        self.assertIsNone(difference(one, other))
        self.assertIsNone(difference(other, one))

    def assertDiffer(self, one, other, state):
        self.assertEqual((difference(one, other), difference(other, one)), (state, state))

    def test_the_same(self):
        for policy in (PASS, STOP, when("src", 3), ("star", ("set", "kind", 1)), ("sum", []), ("seq", [])):
            self.assertEqualPolicies(policy, copy.deepcopy(policy))

    def test_written_otherwise(self):
        a, b = ("seq", [when("src", 3), ("set", "port", 2)]), ("set", "dst", 4)
        for one, other in (
            (("sum", [a, b]), ("sum", [b, a])),
            (("sum", [a, b, a, a]), ("sum", [a, b])),
            (a, ("sum", [("seq", [when("kind", 5), a]), ("seq", [unless("kind", 5), a])])),
            (("seq", [b, b]), b),
            (("star", ("star", a)), ("star", a)),
            (("star", a), ("sum", [PASS, a])),
            (("sum", []), STOP), (("seq", []), PASS),
            (("seq", [("set", "src", 1), ("set", "dst", 2)]), ("seq", [("set", "dst", 2), ("set", "src", 1)])),
            (("seq", [STOP, a]), ("seq", [b, STOP])),
            (("seq", [when("src", 3), ("set", "src", 3)]), when("src", 3)),
            (("test", ("not", ("any", [("is", "src", 1), ("is", "dst", 2)]))),
             ("seq", [unless("dst", 2), unless("src", 1)])),
        ):
            self.assertEqualPolicies(one, other)

    def test_at_one_number_alone(self):
        for at, field in enumerate(FIELDS):
            least, most = FIELD_BOUNDS[at]
            for number in (least, most):
                state = tuple(number if at == place else FIELD_BOUNDS[place][0] for place in range(5))
                self.assertDiffer(unless(field, number), PASS, state)
                self.assertDiffer(("sum", [STOP, when(field, number)]), STOP, state)

    def test_at_a_number_that_neither_names(self):
        every = ("test", ("any", [("is", "src", 0), ("is", "src", 1), ("is", "src", 2)]))
        self.assertDiffer(every, PASS, (1, 0, 3, 0, 0))
        self.assertDiffer(("set", "kind", 0), PASS, (1, 0, 0, 0, 1))

    def test_all_numbers_named(self):
        for at, field in enumerate(FIELDS):
            least, most = FIELD_BOUNDS[at]
            every = [("is", field, number) for number in range(least, most + 1)]
            self.assertEqualPolicies(("test", ("any", every)), PASS)
            self.assertEqualPolicies(("test", ("all", every)), STOP)
            state = tuple(most if at == place else FIELD_BOUNDS[place][0] for place in range(5))
            self.assertDiffer(("test", ("any", every[:-1])), PASS, state)

    def test_by_a_star(self):
        step = ("sum", [("seq", [when("dst", at), ("set", "dst", at + 1)]) for at in range(3)])
        self.assertDiffer(("star", step), ("sum", [PASS, step]), (1, 0, 0, 0, 0))
        self.assertEqualPolicies(("star", step), ("sum", [PASS, step, ("seq", [step, step]), ("seq", [step, step, step])]))

    def test_least_of_several(self):
        self.assertDiffer(("test", ("any", [("is", "kind", 4), ("is", "src", 2)])), STOP, (1, 0, 0, 0, 4))
        self.assertDiffer(("test", ("any", [("is", "switch", 4), ("is", "port", 2)])), STOP, (1, 2, 0, 0, 0))

    def test_sets_at_one_number(self):
        # Both lead to the same states where src is 7 already.
        self.assertDiffer(("set", "src", 7), PASS, (1, 0, 0, 0, 0))
        self.assertEqualPolicies(("seq", [when("src", 7), ("set", "src", 7)]), when("src", 7))

    def test_random(self):
        chance = random.Random(12)
        numbers = {"switch": [1, 8], "port": [0, 5], "src": [0, 1], "dst": [3], "kind": [15]}
        drawing = Drawing(chance, numbers, FIELDS)
        equal = 0
        for _ in range(400):
            one, other = drawing.policy(2), drawing.policy(2)
            states = sorted(itertools.product(*samples([one, other])))
            told = [state for state in states if leads(one, {state}) != leads(other, {state})]
            self.assertEqual(difference(one, other), told[0] if told else None)
            equal += not told
            # What no sample state tells apart, no state tells apart.
            for _ in range(10):
                state = tuple(chance.randint(*bounds) for bounds in FIELD_BOUNDS)
                if not told:
                    self.assertEqual(sorted(after(one, state)), sorted(after(other, state)))
        self.assertGreater(equal, 20)


if __name__ == "__main__":
    unittest.main()
