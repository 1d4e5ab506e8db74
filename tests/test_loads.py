"""Loads of flows, safe steps, plans and their papers (points 81 to 85)."""

import copy
import itertools
import random
import unittest

from hangbridge.loads import (even_steps, fits_rooms, greatest_loads, in_order, is_safe, layers, layers_right, load_of,
                              loads, plan, scaled_flows, settings, ways_of)

UP, DOWN = [(1, 1)], [(1, 2)]
LONG = [(1, 3), (2, 2), (3, 1)]
# Shares an end with LONG.
SIDE = [(1, 4), (2, 2)]
# Two flows that change places, with room for one more.
ONE, OTHER = [[(UP, 2)], [(DOWN, 2)]], [[(DOWN, 2)], [(UP, 2)]]
ROOMS = {(1, 1): 3, (1, 2): 3}


def plain_loads(flows):
    """Return the loads of flows as the document tells them, without 0."""
    ends = [end for flow in flows for way, amount in flow for end in way * amount]
    return {end: ends.count(end) for end in ends}


def plainly_fit(rooms, flows):
    return all(load <= rooms.get(end, 0) for end, load in plain_loads(flows).items())


def plainly_safe(rooms, flows, others):
    """Return whether flows fit whichever of them are turned."""
    return all(plainly_fit(rooms, turned) for turned in itertools.product(*zip(flows, others)))


def amounts(flows, ways):
    """Return the lists of the amounts of flows on the ways of each."""
    return [[sum(amount for way, amount in flow if way == other) for other in row] for flow, row in zip(flows, ways)]


def plain_settings(flows, others):
    """Return all settings, by trying all amounts."""
    ways = []
    for flow, other in zip(flows, others):
        row = []
        for way, _ in flow + other:
            if way not in row:
                row.append(way)
        ways.append(row)
    totals = [sum(amount for _, amount in flow) for flow in flows]
    rows = [[list(row) for row in itertools.product(range(total + 1), repeat=len(row)) if sum(row) == total]
            for total, row in zip(totals, ways)]
    found = sorted(list(choice) for choice in itertools.product(*rows))
    built = [[[(way, amount) for way, amount in zip(row, choice) if amount] for row, choice in zip(ways, choices)]
             for choices in found]
    return built, ways


def drawn(chance):
    """Return rooms, flows and others, as many, with the same amounts."""
    ends = [(1, 1), (1, 2), (2, 1), (2, 3), (3, 1)]
    flows, others = [], []
    for _ in range(chance.randrange(4)):
        total = chance.randrange(4)
        forms = []
        for _ in range(2):
            left, form = total, []
            while left:
                amount = chance.randrange(1, left + 1)
                form.append((chance.sample(ends, chance.randrange(1, 4)), amount))
                left -= amount
            forms.append(form)
        if chance.random() < 0.5 and forms[0]:
            forms[1] = [(list(way), amount) for way, amount in forms[0][::-1]]
            forms[1][0] = (chance.sample(ends, 2), forms[1][0][1])
        flows.append(forms[0])
        others.append(forms[1])
    if chance.random() < 0.5:
        return {end: chance.randrange(7) for end in ends if chance.random() < 0.9}, flows, others
    # Rooms in which both fit just so.
    rows = [plain_loads(flows), plain_loads(others)]
    rooms = {end: max(row.get(end, 0) for row in rows) + chance.randrange(2) for end in ends}
    return rooms, flows, others


class Unchanged(unittest.TestCase):
    def ask(self, question, *given):
        """Return an answer, which must not change what was given, nor share lists or dicts with it."""
        before = copy.deepcopy(given)
        told = question(*given)
        self.assertEqual(given, before)
        kept = copy.deepcopy(told)
        self.spoil(told)
        self.assertEqual((given, question(*given)), (before, kept))
        return kept

    def spoil(self, told):
        """Change all lists and dicts that can be found in something."""
        if isinstance(told, (list, tuple)):
            for row in told:
                self.spoil(row)
        if isinstance(told, list):
            told.append("spoilt")
        if isinstance(told, dict):
            told["spoilt"] = 1


class Loads(Unchanged):
    def test_one_flow(self):
        self.assertEqual(self.ask(load_of, []), {})
        self.assertEqual(self.ask(load_of, [(LONG, 2)]), {(1, 3): 2, (2, 2): 2, (3, 1): 2})
        # A way that stands twice, and ways that share an end.
        self.assertEqual(self.ask(load_of, [(UP, 2), (UP, 3), (DOWN, 1)]), {(1, 1): 5, (1, 2): 1})
        self.assertEqual(self.ask(load_of, [(LONG, 2), (SIDE, 3)]), {(1, 3): 2, (2, 2): 5, (3, 1): 2, (1, 4): 3})

    def test_several(self):
        self.assertEqual(self.ask(loads, []), {})
        self.assertEqual(self.ask(loads, [[], []]), {})
        self.assertEqual(self.ask(loads, [[(UP, 2)], [(UP, 1), (SIDE, 4)], [(LONG, 1)]]),
                         {(1, 1): 3, (1, 4): 4, (2, 2): 5, (1, 3): 1, (3, 1): 1})

    def test_fits(self):
        flows = [[(LONG, 2)], [(SIDE, 3)]]
        rooms = {(1, 3): 2, (2, 2): 5, (3, 1): 2, (1, 4): 3}
        self.assertIs(self.ask(fits_rooms, rooms, flows), True)
        self.assertIs(fits_rooms({**rooms, (6, 6): 0}, flows), True)
        for end in rooms:
            self.assertIs(fits_rooms({**rooms, end: rooms[end] - 1}, flows), False)
            self.assertIs(fits_rooms({**rooms, end: 100}, flows), True)
            self.assertIs(fits_rooms({other: rooms[other] for other in rooms if other != end}, flows), False)

    def test_nothing_fits_always(self):
        self.assertIs(fits_rooms({}, []), True)
        self.assertIs(fits_rooms({}, [[], []]), True)
        self.assertIs(fits_rooms({(1, 1): 0}, [[(UP, 1)]]), False)
        self.assertIs(fits_rooms({}, [[(UP, 1)]]), False)

    def test_drawn(self):
        chance = random.Random(1)
        for _ in range(200):
            rooms, flows, _ = drawn(chance)
            self.assertEqual(loads(flows), plain_loads(flows))
            self.assertEqual(fits_rooms(rooms, flows), plainly_fit(rooms, flows))


class Safe(Unchanged):
    def test_of_the_document(self):
        self.assertIs(self.ask(is_safe, ROOMS, ONE, OTHER), False)
        self.assertEqual(len(plan(ROOMS, ONE, OTHER)), 3)

    def test_greatest_loads(self):
        self.assertEqual(self.ask(greatest_loads, [], []), {})
        self.assertEqual(self.ask(greatest_loads, ONE, OTHER), {(1, 1): 4, (1, 2): 4})
        self.assertEqual(self.ask(greatest_loads, [[(UP, 3), (DOWN, 1)], []], [[(DOWN, 4)], []]), {(1, 1): 3, (1, 2): 4})
        # Each flow by itself: the greater one of its loads, not that of all flows.
        self.assertEqual(greatest_loads([[(UP, 1)], [(DOWN, 5)]], [[(DOWN, 1)], [(DOWN, 2), (UP, 3)]]),
                         {(1, 1): 4, (1, 2): 6})
        self.assertEqual(greatest_loads([[(LONG, 2), (SIDE, 1)]], [[(SIDE, 2)]]),
                         {(1, 3): 2, (2, 2): 3, (3, 1): 2, (1, 4): 2})

    def test_just_enough(self):
        rooms = {(1, 1): 4, (1, 2): 4}
        self.assertIs(is_safe(rooms, ONE, OTHER), True)
        for end in rooms:
            self.assertIs(is_safe({**rooms, end: 3}, ONE, OTHER), False)

    def test_not_turned(self):
        self.assertIs(is_safe({(1, 1): 2, (1, 2): 2}, ONE, ONE), True)
        self.assertIs(is_safe({(1, 1): 2, (1, 2): 1}, ONE, ONE), False)

    def test_against_all_sets_of_turned_flows(self):
        chance = random.Random(2)
        told = []
        for _ in range(600):
            rooms, flows, others = drawn(chance)
            told.append(is_safe(rooms, flows, others))
            self.assertEqual(told[-1], plainly_safe(rooms, flows, others))
            most = greatest_loads(flows, others)
            turned = [plain_loads(some) for some in itertools.product(*zip(flows, others))]
            self.assertEqual(most, {end: max(row.get(end, 0) for row in turned) for end in most})
            self.assertEqual(is_safe(most, flows, others), True)
        self.assertIn(True, told)
        self.assertIn(False, told)


class Even(Unchanged):
    def test_scaled(self):
        self.assertEqual(self.ask(scaled_flows, [[(UP, 2), (LONG, 1), (UP, 1)], []], 3),
                         [[(UP, 6), (LONG, 3), (UP, 3)], []])
        self.assertEqual(scaled_flows(ONE, 1), ONE)
        self.assertEqual(scaled_flows([], 5), [])

    def test_in_one_step(self):
        self.assertEqual(self.ask(even_steps, ONE, OTHER, 1), [ONE, OTHER])
        self.assertEqual(even_steps([], [], 1), [[], []])
        # Each way once, in their order.
        self.assertEqual(even_steps([[(UP, 1), (DOWN, 2), (UP, 3)]], [[(LONG, 2), (DOWN, 4)]], 1),
                         [[[(UP, 4), (DOWN, 2)]], [[(DOWN, 4), (LONG, 2)]]])

    def test_in_several(self):
        self.assertEqual(self.ask(even_steps, ONE, OTHER, 3),
                         [[[(UP, 6)], [(DOWN, 6)]], [[(UP, 4), (DOWN, 2)], [(DOWN, 4), (UP, 2)]],
                          [[(UP, 2), (DOWN, 4)], [(DOWN, 2), (UP, 4)]], [[(DOWN, 6)], [(UP, 6)]]])
        self.assertEqual(even_steps([[(UP, 1), (DOWN, 1)]], [[(DOWN, 2)]], 2),
                         [[[(UP, 2), (DOWN, 2)]], [[(UP, 1), (DOWN, 3)]], [[(DOWN, 4)]]])

    def test_without_a_way(self):
        self.assertEqual(even_steps([[], [(UP, 1)]], [[], [(UP, 1)]], 2), [[[], [(UP, 2)]]] * 3)

    def test_safe_where_the_rooms_are_as_promised(self):
        chance = random.Random(3)
        for _ in range(300):
            _, flows, others = drawn(chance)
            count = chance.randrange(1, 6)
            steps = even_steps(flows, others, count)
            self.assertEqual(len(steps), count + 1)
            self.assertEqual(steps[0], in_order(scaled_flows(flows, count), scaled_flows(others, count)))
            one, other = plain_loads(flows), plain_loads(others)
            # The least rooms: count + 1 times the load is at most count times the room.
            rooms = {end: -(-(count + 1) * max(one.get(end, 0), other.get(end, 0)) // count) for end in {**one, **other}}
            wide = {end: count * room for end, room in rooms.items()}
            for at, flows_then in enumerate(steps):
                expected = {end: (count - at) * one.get(end, 0) + at * other.get(end, 0) for end in rooms}
                self.assertEqual(loads(flows_then), {end: load for end, load in expected.items() if load})
                if at:
                    self.assertTrue(is_safe(wide, steps[at - 1], flows_then))


class Settings(Unchanged):
    def test_ways_of(self):
        self.assertEqual(self.ask(ways_of, [], []), [])
        self.assertEqual(self.ask(ways_of, [(UP, 1), (LONG, 2), (UP, 3)], [(SIDE, 1), (LONG, 4), (DOWN, 1), (SIDE, 1)]),
                         [UP, LONG, SIDE, DOWN])
        self.assertEqual(ways_of([], [(DOWN, 1), (UP, 1)]), [DOWN, UP])
        # The same ends in another order are another way.
        self.assertEqual(ways_of([(SIDE, 1)], [(SIDE[::-1], 1)]), [SIDE, SIDE[::-1]])

    def test_in_order(self):
        flows = [[(LONG, 1), (UP, 2), (LONG, 3)], [(DOWN, 1)], []]
        others = [[(DOWN, 6)], [(DOWN, 1)], []]
        self.assertEqual(self.ask(in_order, flows, others), [[(LONG, 4), (UP, 2)], [(DOWN, 1)], []])
        self.assertEqual(in_order([], []), [])

    def test_settings(self):
        self.assertEqual(self.ask(settings, [], []), [[]])
        self.assertEqual(self.ask(settings, [[]], [[]]), [[[]]])
        self.assertEqual(self.ask(settings, [[(UP, 2)]], [[(UP, 2)]]), [[[(UP, 2)]]])
        self.assertEqual(self.ask(settings, [[(UP, 2)]], [[(DOWN, 2)]]),
                         [[[(DOWN, 2)]], [[(UP, 1), (DOWN, 1)]], [[(UP, 2)]]])

    def test_order(self):
        flows, others = [[(UP, 1)], [(LONG, 1)]], [[(DOWN, 1)], [(SIDE, 1)]]
        self.assertEqual(settings(flows, others), [[[(DOWN, 1)], [(SIDE, 1)]], [[(DOWN, 1)], [(LONG, 1)]],
                                                   [[(UP, 1)], [(SIDE, 1)]], [[(UP, 1)], [(LONG, 1)]]])
        three = settings([[(UP, 1), (LONG, 1)]], [[(DOWN, 2)]])
        self.assertEqual(three, [[[(DOWN, 2)]], [[(LONG, 1), (DOWN, 1)]], [[(LONG, 2)]], [[(UP, 1), (DOWN, 1)]],
                                 [[(UP, 1), (LONG, 1)]], [[(UP, 2)]]])

    def test_drawn(self):
        chance = random.Random(4)
        for _ in range(150):
            _, flows, others = drawn(chance)
            expected, ways = plain_settings(flows, others)
            self.assertEqual(settings(flows, others), expected)
            self.assertEqual([ways_of(*pair) for pair in zip(flows, others)], ways)
            self.assertEqual(amounts(in_order(flows, others), ways), amounts(flows, ways))
            self.assertIn(in_order(flows, others), expected)


class Plans(Unchanged):
    def test_of_the_document(self):
        told = self.ask(plan, ROOMS, ONE, OTHER)
        self.assertEqual((told[0], told[2]), (ONE, OTHER))
        self.assertEqual(told[1], [[(UP, 1), (DOWN, 1)], [(DOWN, 1), (UP, 1)]])

    def test_no_step(self):
        self.assertEqual(self.ask(plan, ROOMS, ONE, ONE), [ONE])
        self.assertEqual(plan({}, [], []), [[]])
        # The same, told in another way; and even where it does not fit, as there is no step.
        self.assertEqual(plan({}, [[(UP, 1), (DOWN, 1), (UP, 1)]], [[(DOWN, 1), (UP, 2)]]), [[[(UP, 2), (DOWN, 1)]]])

    def test_one_step(self):
        self.assertEqual(plan({(1, 1): 4, (1, 2): 4}, ONE, OTHER), [ONE, OTHER])
        # Told in the order of the ways, the first form's first.
        self.assertEqual(plan({(1, 1): 9, (1, 2): 9, (1, 3): 9, (2, 2): 9, (3, 1): 9}, [[(UP, 2), (LONG, 1)]],
                              [[(DOWN, 1), (LONG, 1), (UP, 1)]]),
                         [[[(UP, 2), (LONG, 1)]], [[(UP, 1), (LONG, 1), (DOWN, 1)]]])

    def test_none(self):
        self.assertIsNone(plan({(1, 1): 2, (1, 2): 2}, ONE, OTHER))
        self.assertIsNone(plan({}, ONE, OTHER))
        self.assertIsNone(plan({(1, 1): 9}, [[(UP, 1)]], [[(DOWN, 1)]]))

    def test_by_a_third_way(self):
        # One flow can wait on a third way, as a whole or half by half, while the other one is turned.
        aside = [(4, 4)]
        flows = [[(UP, 2), (aside, 1)], [(DOWN, 2)]]
        others = [[(DOWN, 2), (aside, 1)], [(UP, 2)]]
        rooms = {(1, 1): 2, (1, 2): 2, (4, 4): 3}
        told = plan(rooms, flows, others)
        self.assertEqual(told, [flows, [[(aside, 3)], [(DOWN, 2)]], [[(aside, 3)], [(UP, 2)]],
                                [[(aside, 1), (DOWN, 2)], [(UP, 2)]]])
        self.assertEqual(len(plan({**rooms, (4, 4): 2}, flows, others)), 6)
        self.assertIsNone(plan({**rooms, (4, 4): 1}, flows, others))

    def test_many_steps(self):
        # Two flows change places by an end with a room of one between them.
        flows, others = [[(UP, 4)], [(DOWN, 4)]], [[(DOWN, 4)], [(UP, 4)]]
        for room, steps in ((8, 1), (7, 2), (6, 2), (5, 4), (4, None)):
            told = plan({(1, 1): room, (1, 2): room}, flows, others)
            self.assertEqual(told and len(told) - 1, steps)


class Layers(Unchanged):
    def test_of_the_document(self):
        middle = [[[(DOWN, 2)], [(DOWN, 2)]]]
        self.assertNotIn(middle[0], plan(ROOMS, ONE, OTHER))
        told = self.ask(layers, ROOMS, ONE, OTHER)
        self.assertEqual((told[0], [len(row) for row in told]), ([ONE], [1, 3, 3]))
        self.assertIn(OTHER, told[2])
        self.assertIs(self.ask(layers_right, ROOMS, ONE, OTHER, told), True)

    def test_no_step(self):
        self.assertEqual(layers(ROOMS, ONE, ONE), [[ONE]])
        self.assertIs(layers_right(ROOMS, ONE, ONE, [[ONE]]), True)
        self.assertEqual(layers({}, [], []), [[[]]])

    def test_none(self):
        told = layers({(1, 1): 2, (1, 2): 2}, ONE, OTHER)
        self.assertEqual(told, [[ONE], []])
        self.assertIs(layers_right({(1, 1): 2, (1, 2): 2}, ONE, OTHER, told), True)
        self.assertIs(layers_right(ROOMS, ONE, OTHER, told), False)
        # What does not fit leads nowhere.
        self.assertEqual(layers({}, ONE, OTHER), [[ONE], []])

    def assertPaper(self, right, rows, rooms=None):
        self.assertIs(self.ask(layers_right, rooms or ROOMS, ONE, OTHER, rows), right)

    def test_a_setting_left_out(self):
        told = layers(ROOMS, ONE, OTHER)
        for at, row in enumerate(told[:2]):
            for setting in row:
                rows = copy.deepcopy(told)
                rows[at].remove(setting)
                self.assertPaper(False, rows)
        # Of the last layer each but those that are reached in as many steps is needed as well.
        for setting in told[2]:
            rows = copy.deepcopy(told)
            rows[2].remove(setting)
            self.assertPaper(False, rows)
        rows = copy.deepcopy(told)
        self.assertPaper(False, [*rows[:2], []])

    def test_a_layer_left_out(self):
        told = layers(ROOMS, ONE, OTHER)
        self.assertPaper(False, told[1:])
        self.assertPaper(False, [told[0], told[2]])
        # Fewer layers tell less, which is right as well.
        self.assertPaper(True, told[:2])
        self.assertPaper(True, told[:1])
        self.assertPaper(False, [])
        self.assertPaper(False, [[]])

    def test_put_in(self):
        told = layers(ROOMS, ONE, OTHER)
        every = settings(ONE, OTHER)
        # What stands in a layer twice, or in an earlier one again, does no harm.
        self.assertPaper(True, [told[0], told[1] + told[0] + told[1], told[2] + told[1]])
        # The goal, and what leads to it, must not be there before the last layer.
        self.assertPaper(False, [told[0], [*told[1], OTHER], told[2]])
        self.assertPaper(False, [[ONE, OTHER], told[1], told[2]])
        self.assertPaper(False, [told[0], told[1], told[2], []])
        self.assertPaper(False, [*told, told[2]])
        # All settings but the goal at once tell one step less, and are a paper for it.
        rest = [setting for setting in every if setting != OTHER]
        self.assertPaper(True, [rest, [OTHER]])
        self.assertPaper(True, [rest, [OTHER, ONE]])
        self.assertPaper(False, [rest, []])
        self.assertPaper(True, [rest])

    def test_exchanged(self):
        told = layers(ROOMS, ONE, OTHER)
        self.assertPaper(False, [told[1], told[0], told[2]])
        self.assertPaper(False, [told[0], told[2], told[1]])
        self.assertPaper(False, told[::-1])
        self.assertPaper(True, [row[::-1] for row in told])

    def test_an_empty_layer_between(self):
        narrow = {(1, 1): 2, (1, 2): 2}
        self.assertPaper(True, [[ONE], [], [OTHER]], narrow)
        self.assertPaper(True, [[ONE], [], []], narrow)
        self.assertPaper(False, [[ONE], [], [OTHER]])
        self.assertPaper(False, [[ONE], [OTHER], []], narrow)

    def test_the_last_layer_may_lead_anywhere(self):
        self.assertPaper(True, [[ONE], layers(ROOMS, ONE, OTHER)[1]])
        self.assertPaper(True, [[ONE, OTHER]])

    def test_what_is_no_setting(self):
        self.assertPaper(False, [[ONE, [[(UP, 2)]]]])
        self.assertPaper(False, [[ONE, [[(UP, 3)], [(DOWN, 2)]]]])
        self.assertPaper(False, [[ONE, [[(LONG, 2)], [(DOWN, 2)]]]])
        self.assertPaper(False, [[ONE, [*ONE, []]]])

    def test_drawn(self):
        chance = random.Random(5)
        steps = []
        for _ in range(400):
            rooms, flows, others = drawn(chance)
            if len(settings(flows, others)) > 150:
                continue
            steps.append(self.check(chance, rooms, flows, others))
        self.assertLessEqual({None, 0, 1, 2, 3}, set(steps))

    def check(self, chance, rooms, flows, others):
        """Compare the layers with all lists of safe steps, plainly searched; return how many steps it takes, or None."""
        every, ways = plain_settings(flows, others)
        first, last = [[row for row in every if amounts(row, ways) == amounts(form, ways)][0] for form in (flows, others)]
        rows, found = [[first]], [first]
        while rows[-1] and last not in found:
            rows.append([row for row in every if row not in found
                         and any(plainly_safe(rooms, before, row) for before in rows[-1])])
            found += rows[-1]
        self.assertEqual(layers(rooms, flows, others), rows)
        self.assertTrue(layers_right(rooms, flows, others, rows))
        told = plan(rooms, flows, others)
        if not rows[-1]:
            self.assertIsNone(told)
            return None
        self.assertEqual((told[0], told[-1], len(told)), (first, last, len(rows)))
        for one, other in zip(told, told[1:]):
            self.assertTrue(plainly_safe(rooms, one, other))
        # A paper that is accepted never tells more steps than it takes.
        for _ in range(4):
            paper = [list(row) for row in rows] + [[]] * chance.randrange(2)
            for _ in range(chance.randrange(1, 4)):
                row = chance.choice(paper)
                if row and chance.random() < 0.5:
                    row.pop(chance.randrange(len(row)))
                else:
                    row.append(chance.choice(every))
            if layers_right(rooms, flows, others, paper):
                self.assertLess(len(paper), len(rows) + 1)
                self.assertTrue(paper[-1])
        return len(rows) - 1


if __name__ == "__main__":
    unittest.main()
