import copy
import unittest

from hangbridge.brains import Brain
from hangbridge.errors import RoomError
from hangbridge.frames import read_frame, write_frame
from hangbridge.orders import read_order, write_order
from tests.bench import Bench, chain

SAME = (None, None, None)
STOP = ("sum", [])


def up(sender, kind, number, text="", epoch=1, to=0):
    return write_frame(("segment", to, sender, 12, epoch, kind, number, text))


def down(to, kind, number, text="", epoch=1):
    return write_frame(("segment", to, 0, 12, epoch, kind, number, text))


def ruled(many, port=1):
    """Return a policy with so many rules at each switch."""
    return ("sum", [("seq", [("test", ("is", "dst", at)), ("set", "port", port)]) for at in range(many)])


def rules(many, port=1):
    return [((None, None, at, None), [(port, SAME)]) for at in range(many)]


def adds(version, many, port=1):
    return [("add", version, match, outs) for match, outs in rules(many, port)]


def to(switch, *orders):
    return [(switch, order) for order in orders]


def fill(line):
    """Send to a line until it is full; return how many messages that took."""
    for many in range(301):
        try:
            line.send("x")
        except RoomError:
            return many


def to_phase(bench, phase):
    """Let the adoption of the switch 2 come to a phase behind "lay", and its barrier be held there."""
    bench.holding = [2]
    bench.until_phase("hail")
    while bench.brain.phase != phase:
        if bench.held:
            bench.hear(2, ("done", bench.held.pop()[1], 1))
        else:
            bench.tick()


def to_bringing(bench, phase):
    """Let a version be brought in up to a phase, where the barriers of all three switches are held."""
    bench.holding = [1, 2, 3]
    while True:
        bench.until(lambda: len(bench.held) == 3)
        if bench.brain.phase == phase:
            return
        held, bench.held = bench.held, []
        for switch, number in held:
            bench.hear(switch, ("done", number, 0))


BARRIER = ("barrier",)


class NewControllers(unittest.TestCase):
    def test_attributes(self):
        brain = Brain(3)
        self.assertEqual((brain.now, brain.epoch, brain.seen.links(), brain.parents, brain.laid), (0, 0, [], {}, {}))
        self.assertEqual((brain.phase, brain.target, brain.present()), ("rest", None, []))
        self.assertEqual((brain.stage.now, brain.stage.waits, brain.stage.taken), (0, 0, 0))
        self.assertEqual(list(brain.lines), [1, 2, 3])
        self.assertEqual([(line.state, line.epoch) for line in brain.lines.values()], [("none", 0)] * 3)

    def test_stage_for_its_switches(self):
        policy = ("seq", [("test", ("is", "switch", 3)), ("sum", [("set", "src", at) for at in range(9)])])
        self.assertEqual(Brain(2).stage.offer(policy), 1)
        with self.assertRaises(RoomError):
            Brain(3).stage.offer(policy)


class FirstSwitch(unittest.TestCase):
    def test_frame_by_frame(self):
        brain = Brain(2)
        self.assertEqual(brain.tick(), [])
        self.assertEqual((brain.phase, brain.target, brain.epoch, brain.now), ("hail", 1, 1, 1))
        self.assertEqual(brain.lines[1].state, "hailing")
        self.assertEqual(brain.tick(), [down(1, "hail", 0)])
        brain.hear(up(1, "here", 7))
        self.assertEqual(brain.tick(), [down(1, "hail", 7)])
        brain.hear(up(1, "open", 7))
        self.assertEqual((brain.phase, brain.present()), ("check", []))
        self.assertEqual(brain.tick(), [down(1, "data", 0, "keep 0 0"), down(1, "data", 1, "way 0 0"),
                                        down(1, "data", 2, "barrier 1")])
        brain.hear(up(1, "ack", 3))
        self.assertEqual((brain.phase, brain.present()), ("check", []))
        brain.hear(up(1, "data", 0, "done 1 0"))
        self.assertEqual((brain.phase, brain.target, brain.present()), ("rest", 1, [1]))
        self.assertEqual((brain.laid, brain.parents), ({1: {0: 0}}, {}))
        # The probe of tick 4 is said only at the next tick, as lines come before it.
        self.assertEqual(brain.tick(), [down(1, "ack", 1)])
        self.assertEqual(brain.tick(), [down(1, "data", 3, "probe 3 4")])

    def test_no_answer(self):
        brain = Brain(1)
        hails = []
        while brain.epoch < 3:
            for text in brain.tick():
                hails.append((brain.now - 1, read_frame(text)[4]))
        # The line fails at its sixth hail; that fails the adoption, and the next one begins at the same tick.
        self.assertEqual(hails, [(now, 1) for now in (1, 5, 13, 29, 45, 61)] +
                         [(now, 2) for now in (62, 66, 74, 90, 106, 122)])
        self.assertEqual((brain.phase, brain.target, brain.now), ("hail", 1, 123))


class HopByHop(unittest.TestCase):
    def test_second_and_third(self):
        bench = Bench(3).until_present(1)
        self.assertEqual(bench.taken(), to(1, ("keep", 0, 0), ("way", 0, 0), BARRIER))
        bench.hear(1, ("link", 2, (2, 5), 4))
        self.assertEqual((bench.brain.phase, bench.brain.target), ("lay", 2))
        self.assertEqual(bench.brain.seen.links(), [((1, 2), (2, 5))])
        self.assertEqual(bench.brain.laid, {1: {0: 0, 2: 2}})
        bench.until_present(1, 2)
        self.assertEqual(bench.taken(), to(1, ("way", 2, 2), BARRIER) + to(2, ("keep", 0, 0), ("way", 0, 5), BARRIER))
        bench.hear(2, ("link", 1, (3, 6), 4))
        bench.until_present(1, 2, 3)
        self.assertEqual(bench.taken(), to(1, ("way", 3, 2), BARRIER) + to(2, ("way", 3, 1), BARRIER) +
                         to(3, ("keep", 0, 0), ("way", 0, 6), BARRIER))
        brain = bench.brain
        self.assertEqual(brain.parents, {2: (1, 2), 3: (2, 1)})
        self.assertEqual(brain.laid, {1: {0: 0, 2: 2, 3: 2}, 2: {0: 5, 3: 1}, 3: {0: 6}})
        self.assertEqual((brain.phase, brain.target, brain.epoch), ("rest", 3, 3))

    def test_from_the_greater_end(self):
        bench = Bench(3).link((3, 1), (1, 4)).link((2, 6), (3, 2)).until_present(1, 2, 3)
        self.assertEqual(bench.brain.parents, {3: (1, 4), 2: (3, 2)})
        self.assertEqual(bench.brain.laid, {1: {0: 0, 3: 4, 2: 4}, 3: {0: 1, 2: 2}, 2: {0: 6}})

    def test_phases(self):
        bench = Bench(2).until_present(1).link((1, 2), (2, 1))
        seen = []
        bench.brain.tick()
        bench.mute = [2]
        while bench.brain.phase != "rest":
            if bench.brain.phase not in seen:
                seen.append(bench.brain.phase)
                self.assertEqual((bench.brain.target, bench.brain.present()), (2, [1]))
            if bench.brain.phase == "hail":
                bench.mute = []
            bench.tick()
        self.assertEqual(seen, ["lay", "hail", "check"])

    def test_hail_comes_when_the_ways_are_laid(self):
        bench = chain(3, present=2)
        bench.holding = [1, 2]
        bench.until_phase("lay")
        bench.tick(20)
        self.assertEqual((bench.brain.phase, bench.brain.epoch, bench.hails.count(3)), ("lay", 2, 0))
        self.assertEqual([switch for switch, _ in bench.held], [1, 2])
        bench.hear(1, ("done", bench.held[0][1], 0))
        self.assertEqual((bench.brain.phase, bench.brain.lines[3].state), ("lay", "none"))
        bench.hear(2, ("done", bench.held[1][1], 0))
        self.assertEqual((bench.brain.phase, bench.brain.lines[3].state, bench.brain.epoch), ("hail", "hailing", 3))
        self.assertEqual(bench.brain.lines[3].epoch, 3)

    def test_lines_are_not_used_before_hail(self):
        bench = chain(2, present=1)
        bench.holding = [1]
        bench.until_phase("lay")
        bench.tick(30)
        self.assertEqual((bench.hails.count(2), bench.brain.lines[2].state), (0, "none"))

    def test_unway(self):
        # 4 hangs on 2 first, then on 3; 5 hangs on 3 and never on the way.
        bench = Bench(5).link((1, 2), (2, 1)).link((1, 3), (3, 1)).link((2, 4), (4, 2)).link((3, 5), (5, 1))
        bench.until_present(1, 2, 3, 4, 5)
        self.assertEqual(bench.brain.parents[4], (2, 4))
        bench.taken()
        bench.link((3, 4), (4, 3))
        bench.hear(2, ("port", 4, 0))
        self.assertEqual((bench.brain.present(), bench.brain.phase, bench.brain.target), ([1, 2, 3, 5], "lay", 4))
        self.assertEqual(bench.brain.laid, {1: {0: 0, 2: 2, 3: 3, 4: 3, 5: 3}, 2: {0: 1}, 3: {0: 1, 4: 4, 5: 5}, 5: {0: 1}})
        bench.until_present(1, 2, 3, 4, 5)
        orders = bench.taken()
        self.assertEqual([row for row in orders if row[0] != 4],
                         to(1, ("way", 4, 3), BARRIER) + to(2, ("unway", 4)) + to(3, ("way", 4, 4), BARRIER))
        self.assertEqual([row for row in orders if row[0] == 4], to(4, ("keep", 0, 0), ("way", 0, 3), BARRIER))

    def test_barriers_are_numbered_one_by_one(self):
        bench = Bench(3).link((1, 2), (2, 1)).link((2, 2), (3, 1)).until_present(1, 2, 3)
        self.assertEqual([order[1] for _, order in bench.orders if order[0] == "barrier"], [1, 2, 3, 4, 5, 6])


class Filling(unittest.TestCase):
    """What is sent to a switch whose table can be kept, must be mended, or must be filled."""

    def bench(self, errors):
        """Return a bench at which the switch 2 is about to be adopted, with some errors at its barriers in order."""
        bench = chain(2, present=1)
        bench.brain.stage.offer(ruled(3))
        bench.brain.stage.settle()
        bench.until_phase("check")
        bench.taken()
        told = list(errors)
        say = bench.say

        def wrong(switch, order):
            if switch == 2 and order[0] == "done" and told:
                order = (*order[:2], told.pop(0))
            say(switch, order)
        bench.say = wrong
        return bench

    CHECK = to(2, ("keep", 1, 3), ("way", 0, 1), BARRIER)
    MEND = to(2, ("strip",), *adds(1, 3), ("keep", 1, 3), ("way", 0, 1), BARRIER)
    FILL = to(2, ("wipe",), ("way", 0, 1), *adds(1, 3), ("tag", 1, 3), BARRIER)

    def test_kept(self):
        bench = self.bench([0]).until_present(1, 2)
        self.assertEqual(bench.taken(), self.CHECK)

    def test_mended(self):
        bench = self.bench([1, 0]).until_phase("mend")
        self.assertEqual((bench.taken(), bench.brain.present()), (self.CHECK, [1]))
        bench.until_present(1, 2)
        self.assertEqual(bench.taken(), self.MEND)

    def test_filled(self):
        bench = self.bench([5, 1, 0]).until_phase("fill")
        self.assertEqual((bench.taken(), bench.brain.present()), (self.CHECK + self.MEND, [1]))
        bench.until_present(1, 2)
        self.assertEqual((bench.taken(), bench.brain.laid[2], bench.brain.phase), (self.FILL, {0: 1}, "rest"))

    def test_failed(self):
        bench = self.bench([1, 1, 1]).until_phase("fill").until_phase("lay")
        self.assertEqual((bench.brain.present(), bench.brain.target), ([1], 2))
        self.assertEqual(bench.taken(), self.CHECK + self.MEND + self.FILL)
        bench.until_present(1, 2)
        self.assertEqual(bench.taken(), to(1, ("way", 2, 2), BARRIER) + self.CHECK)

    def test_first_switch(self):
        bench = Bench(1)
        bench.brain.stage.offer(ruled(2))
        bench.brain.stage.settle()
        bench.errors = {1: 1}
        bench.until_present(1)
        self.assertEqual(bench.taken(), to(1, ("keep", 1, 2), ("way", 0, 0), BARRIER, ("strip",), *adds(1, 2),
                                           ("keep", 1, 2), ("way", 0, 0), BARRIER))

    def test_without_a_version(self):
        bench = Bench(1)
        bench.brain.stage.offer(ruled(2))
        bench.holding = [1]
        for phase, orders in (("check", [("keep", 0, 0), ("way", 0, 0)]),
                              ("mend", [("strip",), ("keep", 0, 0), ("way", 0, 0)]),
                              ("fill", [("wipe",), ("way", 0, 0), ("tag", 0, 0)])):
            bench.until(lambda: len(bench.held) > 0)
            self.assertEqual((bench.brain.phase, bench.taken()), (phase, to(1, *orders, BARRIER)))
            bench.hear(1, ("done", bench.held.pop()[1], 1))
        self.assertEqual((bench.brain.phase, bench.brain.epoch), ("hail", 2))


class Choosing(unittest.TestCase):
    """Which end is taken, of several."""

    def adopted(self, bench):
        """Return the end by which a switch is adopted now, as the ways that are laid tell it."""
        brain = bench.brain
        assert brain.phase == "lay"
        last = [switch for switch in brain.present() if brain.target in brain.laid[switch]][-1]
        return (last, brain.laid[last][brain.target])

    def test_nearest(self):
        bench = Bench(6).link((1, 2), (5, 1)).link((5, 2), (3, 1)).until_present(1, 3, 5)
        # 4 hangs on 3, two links away, and 6 on 5, one link away.
        bench.link((3, 2), (4, 1)).link((5, 6), (6, 6)).tick()
        self.assertEqual((bench.brain.target, self.adopted(bench)), (6, (5, 6)))
        bench.until_present(1, 3, 5, 6).until_present(1, 3, 4, 5, 6)

    def test_nearest_of_one_switch(self):
        bench = Bench(4).link((1, 6), (2, 1)).link((2, 2), (3, 1)).until_present(1, 2, 3)
        bench.link((3, 2), (4, 1)).link((2, 6), (4, 2)).tick()
        self.assertEqual(bench.brain.laid[2][4], 6)
        bench.until_present(1, 2, 3, 4)
        self.assertEqual(bench.brain.parents[4], (2, 6))

    def test_least_switch(self):
        bench = Bench(4).until_present(1).link((1, 1), (4, 1)).link((1, 2), (3, 1)).link((1, 3), (2, 1)).tick()
        self.assertEqual((bench.brain.target, bench.brain.laid[1][2]), (2, 3))
        bench.until_present(1, 2)
        self.assertEqual((bench.brain.target, bench.brain.laid[1][3]), (3, 2))
        bench.until_present(1, 2, 3, 4)

    def test_least_switch_before_least_end(self):
        bench = Bench(5).link((1, 1), (2, 1)).link((1, 2), (3, 1)).until_present(1, 2, 3)
        bench.link((2, 2), (5, 1)).link((3, 2), (4, 1)).tick()
        self.assertEqual((bench.brain.target, bench.brain.laid[3].get(4)), (4, 2))

    def test_least_end(self):
        bench = Bench(2).until_present(1).link((1, 5), (2, 1)).link((1, 3), (2, 6)).tick()
        self.assertEqual(bench.brain.laid[1][2], 3)
        bench = Bench(4).link((1, 1), (2, 1)).link((1, 2), (3, 1)).until_present(1, 2, 3)
        bench.link((3, 2), (4, 1)).link((2, 6), (4, 2)).tick()
        self.assertEqual(bench.brain.laid[2].get(4), 6)

    def test_least_failed_before_all_else(self):
        bench = Bench(4).link((1, 1), (2, 1)).link((2, 2), (4, 1)).until_present(1, 2, 4)
        bench.mute = [3]
        bench.link((1, 3), (3, 1)).link((1, 4), (3, 2)).link((4, 3), (3, 3))
        ends = []
        for _ in range(8):
            bench.until_phase("hail")
            bench.until_phase("lay")
            ends.append(self.adopted(bench))
        # The first adoption, by (1, 3), is behind the first "hail" already.
        self.assertEqual(ends, [(1, 4), (4, 3), (1, 3), (1, 4), (4, 3), (1, 3), (1, 4), (4, 3)])

    def test_failures_are_forgotten_when_it_goes_well(self):
        bench = Bench(2).until_present(1).link((1, 3), (2, 1)).link((1, 4), (2, 2))
        bench.mute = [2]
        ends = []
        for _ in range(4):
            bench.until_phase("lay")
            ends.append(self.adopted(bench))
            bench.until_phase("hail")
        self.assertEqual(ends, [(1, 3), (1, 4), (1, 3), (1, 4)])
        bench.mute = []
        bench.until_present(1, 2)
        self.assertEqual(bench.brain.parents, {2: (1, 4)})
        # (1, 3) has failed twice and (1, 4), from now on, not at all; so (1, 4) is taken twice until both are even.
        bench.mute = [2]
        ends = []
        for _ in range(3):
            bench.until_phase("lay")
            ends.append(self.adopted(bench))
            bench.until_phase("hail")
        self.assertEqual(ends, [(1, 4), (1, 4), (1, 3)])

    def test_links_within_and_links_without_do_not_count(self):
        bench = Bench(4).link((1, 2), (2, 1)).until_present(1, 2).link((1, 5), (2, 5)).link((3, 1), (4, 1))
        bench.tick(20)
        self.assertEqual((bench.brain.phase, bench.brain.target), ("rest", 2))


class Failing(unittest.TestCase):
    """Adoptions that fail or are given up."""

    def test_lay_with_errors(self):
        bench = chain(3, present=2)
        bench.link((1, 3), (3, 3))
        bench.holding = [1, 2]
        # By (1, 3), the shorter way.
        bench.until_phase("lay").tick(4)
        self.assertEqual((bench.brain.target, bench.brain.laid[1][3]), (3, 3))
        bench.hear(1, ("done", bench.held.pop()[1], 2))
        # That has failed, so the other end, which has not, is taken; the way to 3 is laid anew.
        self.assertEqual((bench.brain.phase, bench.brain.laid[1][3], bench.brain.laid[2][3]), ("lay", 2, 2))
        bench.tick(4)
        self.assertEqual([switch for switch, _ in bench.held], [1, 2])
        bench.hear(1, ("done", bench.held[0][1], 1))
        self.assertEqual(bench.brain.laid[1][3], 2)
        bench.hear(2, ("done", bench.held[1][1], 0))
        # Both have failed once, and the one with the shorter way is taken again; 2 has to forget its way.
        self.assertEqual((bench.brain.phase, bench.brain.laid[1][3], 3 in bench.brain.laid[2]), ("lay", 3, False))
        bench.holding = []
        bench.taken()
        bench.tick(3)
        self.assertEqual(bench.taken()[-3:], to(1, ("way", 3, 3), BARRIER) + to(2, ("unway", 3)))

    def test_line_in_each_phase(self):
        for phase in ("hail", "check", "mend", "fill"):
            bench = chain(2, present=1)
            to_phase(bench, phase)
            bench.mute = [2]
            epoch = bench.brain.epoch
            ticks = bench.until(lambda: bench.brain.phase != phase)
            self.assertEqual((bench.brain.phase, bench.brain.target, bench.brain.epoch), ("lay", 2, epoch))
            self.assertEqual((bench.brain.lines[2].state, bench.brain.present()), ("failed", [1]))
            self.assertLess(ticks, 70)

    def test_400_ticks_in_each_phase(self):
        for phase in ("lay", "check", "mend", "fill"):
            bench = chain(2, present=1)
            bench.holding = [1]
            bench.until_phase("lay")
            # The adoption began at the tick before, within the tick.
            began = bench.brain.now - 1
            if phase != "lay":
                bench.until(lambda: len(bench.held) > 0)
                bench.hear(1, ("done", bench.held.pop()[1], 0))
                to_phase(bench, phase)
            bench.until(lambda: bench.brain.now == began + 400)
            self.assertEqual((bench.brain.phase, bench.brain.target), (phase, 2))
            bench.taken()
            bench.tick()
            self.assertEqual((bench.brain.phase, bench.brain.target, bench.brain.present()), ("lay", 2, [1]))
            bench.tick()
            self.assertEqual(bench.taken(), to(1, ("way", 2, 2), BARRIER))

    def test_400_ticks_in_hail(self):
        brain = Brain(1)
        epochs = {}
        boot = 0
        while brain.epoch < 3:
            epochs.setdefault(brain.epoch, brain.now)
            brain.tick()
            # A new boot number whenever the line has hailed five times keeps it from failing.
            if brain.now % 40 == 0:
                boot += 1
                brain.hear(up(1, "here", boot, epoch=brain.epoch))
        self.assertEqual(epochs, {0: 0, 1: 1, 2: 401})

    def test_400_ticks_begin_when_it_is_heard(self):
        bench = Bench(2).until_present(1)
        bench.holding = [1]
        bench.hear(1, ("link", 2, (2, 1), 0))
        began = bench.brain.now
        bench.until(lambda: bench.brain.now == began + 400)
        self.assertEqual(bench.brain.phase, "lay")
        bench.taken()
        bench.tick(2)
        self.assertEqual(bench.taken(), to(1, ("way", 2, 2), BARRIER))

    def test_full_line_in_lay(self):
        bench = Bench(2).until_present(1)
        bench.taken()
        self.assertGreater(fill(bench.brain.lines[1]), 290)
        bench.obey = lambda switch, order: None
        bench.link((1, 2), (2, 1)).tick()
        began = bench.brain.now - 1
        # The barrier had no room, so no "done" ends it: the adoption fails behind 400 ticks, and goes well then.
        bench.until(lambda: bench.brain.now == began + 400)
        self.assertEqual((bench.brain.phase, bench.brain.target, bench.brain.present()), ("lay", 2, [1]))
        del bench.obey
        bench.until_present(1, 2)
        self.assertEqual(bench.taken(), to(1, ("way", 2, 2), BARRIER) + to(2, ("keep", 0, 0), ("way", 0, 1), BARRIER))

    def test_full_line_at_unway(self):
        # The way to 4 leads over 3 in the end; the "unway" of 2 has no room.
        bench = Bench(4).link((1, 2), (2, 1)).link((1, 3), (3, 1)).link((2, 4), (4, 2)).until_present(1, 2, 3, 4)
        bench.holding = [1, 3]
        fill(bench.brain.lines[2])
        bench.obey = lambda switch, order: Bench.obey(bench, switch, order) if order is not None else None
        bench.link((3, 4), (4, 3))
        bench.hear(2, ("port", 4, 0))
        self.assertEqual((bench.brain.phase, bench.brain.laid[2]), ("lay", {0: 1, 4: 4}))
        epoch = bench.brain.epoch
        bench.until(lambda: len(bench.held) == 2)
        self.assertEqual(bench.brain.phase, "lay")
        for switch, number in bench.held:
            bench.hear(switch, ("done", number, 0))
        # All is done, but an order had no room: it has failed, and is begun anew.
        self.assertEqual((bench.brain.phase, bench.brain.epoch), ("lay", epoch))
        self.assertNotIn(4, bench.brain.present())

    def test_full_line_in_check(self):
        bench = chain(2, present=1)
        bench.mute = [2]
        bench.until_phase("hail")
        self.assertEqual(fill(bench.brain.lines[2]), 300)
        bench.mute = []
        bench.obey = lambda switch, order: None
        bench.until_phase("check")
        bench.taken()
        epoch = bench.brain.epoch
        bench.until(lambda: bench.brain.phase != "check")
        self.assertEqual((bench.brain.phase, bench.brain.epoch, bench.taken()), ("lay", epoch, []))

    def test_switch_from_which_one_is_adopted_leaves(self):
        for gone in (1, 2):
            bench = chain(3, present=2)
            bench.holding = [1, 2]
            bench.until_phase("lay")
            bench.mute = [gone]
            bench.until(lambda: gone not in bench.brain.present())
            self.assertEqual(bench.brain.present(), [1] if gone == 2 else [])
            self.assertEqual((bench.brain.phase, bench.brain.target), ("lay", 2) if gone == 2 else ("hail", 1))

    def test_another_switch_leaves(self):
        bench = Bench(4).link((1, 2), (2, 1)).link((1, 3), (3, 1)).until_present(1, 2, 3)
        bench.link((3, 2), (4, 1))
        bench.holding = [4]
        bench.until_phase("check")
        bench.mute = [2]
        bench.until(lambda: bench.brain.present() == [1, 3])
        self.assertEqual((bench.brain.target, bench.brain.phase), (4, "check"))

    def test_link_is_lost(self):
        for end in ((2, 2), (3, 1)):
            bench = chain(3, present=2)
            bench.mute = [3]
            bench.until_phase("hail")
            if end == (2, 2):
                bench.hear(2, ("port", 2, 0))
            else:
                # Another link takes the other end.
                bench.hear(1, ("link", 6, end, 0))
            self.assertEqual(bench.brain.phase, "rest" if end == (2, 2) else "lay")
            self.assertEqual(bench.brain.present(), [1, 2])
            # Nothing has failed by that, so the first link is taken again.
            if end == (2, 2):
                bench.hear(2, ("link", 2, (3, 1), 0))
                self.assertEqual((bench.brain.phase, bench.brain.laid[2][3]), ("lay", 2))

    def test_another_link_is_lost(self):
        bench = chain(3, present=2)
        bench.link((1, 4), (3, 3))
        bench.mute = [3]
        bench.until_phase("hail")
        self.assertEqual((bench.brain.target, bench.brain.laid[1][3]), (3, 4))
        bench.hear(2, ("port", 2, 0))
        bench.hear(1, ("port", 5, 0))
        self.assertEqual((bench.brain.phase, bench.brain.seen.links()),
                         ("hail", [((1, 2), (2, 1)), ((1, 4), (3, 3))]))

    def test_given_up_is_not_failed(self):
        bench = Bench(2).until_present(1).link((1, 3), (2, 1)).link((1, 4), (2, 2))
        bench.mute = [2]
        bench.until_phase("hail")
        bench.hear(1, ("port", 3, 0))
        self.assertEqual((bench.brain.phase, bench.brain.laid[1][2]), ("lay", 4))
        bench.until_phase("hail")
        bench.link((1, 3), (2, 1))
        bench.until_phase("lay")
        # Now (1, 4) has failed, and (1, 3) has not.
        self.assertEqual(bench.brain.laid[1][2], 3)


class Barriers(unittest.TestCase):
    def bench(self):
        bench = chain(3, present=2)
        bench.holding = [1, 2]
        bench.until_phase("lay").tick(4)
        bench.first, bench.second = [number for _, number in bench.held]
        return bench

    def test_both_are_awaited_in_any_order(self):
        for order in ((1, 2), (2, 1)):
            bench = self.bench()
            numbers = {1: bench.first, 2: bench.second}
            bench.hear(order[0], ("done", numbers[order[0]], 0))
            self.assertEqual(bench.brain.phase, "lay")
            bench.hear(order[1], ("done", numbers[order[1]], 0))
            self.assertEqual(bench.brain.phase, "hail")

    def test_another_number(self):
        bench = self.bench()
        bench.hear(2, ("done", bench.second, 0))
        for number in (0, bench.first - 1, bench.first + 1, bench.second, 2147483647):
            bench.hear(1, ("done", number, 9))
            self.assertEqual((bench.brain.phase, bench.brain.laid[1][3]), ("lay", 2))
            bench.tick()
        bench.hear(1, ("done", bench.first, 0))
        self.assertEqual(bench.brain.phase, "hail")

    def test_from_another_switch(self):
        bench = self.bench()
        bench.hear(1, ("done", bench.second, 9))
        bench.hear(2, ("done", bench.first, 9))
        self.assertEqual(bench.brain.phase, "lay")
        bench.hear(1, ("done", bench.first, 0))
        self.assertEqual(bench.brain.phase, "lay")
        bench.hear(2, ("done", bench.second, 0))
        self.assertEqual(bench.brain.phase, "hail")

    def test_twice(self):
        bench = self.bench()
        bench.hear(1, ("done", bench.first, 0))
        bench.hear(1, ("done", bench.first, 9))
        bench.hear(2, ("done", bench.second, 0))
        self.assertEqual(bench.brain.phase, "hail")

    def test_when_nothing_is_awaited(self):
        bench = chain(2)
        before = bench.state()
        for number in range(8):
            bench.hear(1, ("done", number, 1))
            bench.hear(2, ("done", number, 1))
            bench.tick()
        self.assertEqual(bench.state()[1:], before[1:])

    def test_of_an_adoption_that_was_given_up(self):
        bench = self.bench()
        bench.hear(2, ("port", 2, 0))
        self.assertEqual(bench.brain.phase, "rest")
        bench.hear(1, ("done", bench.first, 5))
        self.assertEqual((bench.brain.phase, bench.brain.present()), ("rest", [1, 2]))
        bench.holding = []
        bench.hear(2, ("link", 2, (3, 1), 0))
        bench.until_present(1, 2, 3)

    def test_of_a_switch_that_left(self):
        # 3 hangs on 2; a version is brought in, and 2 and 3 do not answer.
        bench = chain(3)
        bench.holding = [1, 2, 3]
        bench.brain.stage.offer(ruled(1))
        bench.until_phase("add").tick(4)
        numbers = dict(bench.held)
        bench.hear(1, ("done", numbers[1], 0))
        self.assertEqual(bench.brain.phase, "add")
        bench.hear(1, ("port", 2, 0))
        self.assertEqual((bench.brain.present(), bench.brain.phase), ([1], "tag"))


class Leaving(unittest.TestCase):
    def tree(self):
        """Return a bench with 1 - 2 - 3 - 4, 2 - 5 and 1 - 6."""
        bench = Bench(6).link((1, 2), (2, 1)).link((2, 2), (3, 1)).link((3, 2), (4, 1))
        bench.link((2, 5), (5, 1)).link((1, 6), (6, 1))
        return bench.until_present(1, 2, 3, 4, 5, 6)

    def test_what_hangs_leaves_too(self):
        for end, left in (((1, 2), [1, 6]), ((2, 2), [1, 2, 5, 6]), ((3, 2), [1, 2, 3, 5, 6]), ((2, 5), [1, 2, 3, 4, 6]),
                          ((1, 6), [1, 2, 3, 4, 5]), ((3, 1), [1, 2, 5, 6]), ((6, 1), [1, 2, 3, 4, 5])):
            bench = self.tree()
            bench.hear(end[0], ("port", end[1], 0))
            self.assertEqual(bench.brain.present(), left)
            self.assertEqual(sorted([1, *bench.brain.parents]), left)
            self.assertEqual(bench.brain.phase, "rest")

    def test_line_fails(self):
        bench = self.tree()
        bench.mute = [2]
        bench.until(lambda: 2 not in bench.brain.present())
        self.assertEqual(bench.brain.present(), [1, 6])
        self.assertEqual((bench.brain.lines[2].state, bench.brain.phase, bench.brain.target), ("failed", "lay", 2))

    def test_those_behind_in_the_same_tick_say_nothing(self):
        bench = chain(2)
        bench.mute = [1, 2]
        # The line of 1 fails at some tick; 2 hangs on it, and its line says nothing any more at that tick.
        brain = bench.brain
        brain.lines[1].send("x")
        while True:
            then = copy.deepcopy(brain)
            then.tick()
            if then.epoch > brain.epoch:
                break
            brain.tick()
        brain.lines[2].send("x")
        senders = [read_frame(text)[1] for text in brain.tick()]
        self.assertEqual((brain.present(), 1 in senders, 2 in senders), ([], True, False))
        self.assertEqual((brain.phase, brain.target), ("hail", 1))

    def test_ways_of_others_stay(self):
        bench = self.tree()
        bench.hear(3, ("port", 2, 0))
        self.assertEqual((bench.brain.laid[1][4], bench.brain.laid[2][4], bench.brain.laid[3][4]), (2, 2, 2))
        self.assertNotIn(4, bench.brain.laid)

    def test_link_that_is_no_parent(self):
        bench = self.tree().link((4, 6), (5, 6))
        bench.hear(4, ("port", 6, 0))
        self.assertEqual((bench.brain.present(), len(bench.brain.seen.links())), ([1, 2, 3, 4, 5, 6], 5))
        bench.hear(4, ("port", 5, 0))
        self.assertEqual((bench.brain.present(), len(bench.brain.seen.links())), ([1, 2, 3, 4, 5, 6], 5))

    def test_another_link_takes_both_ends(self):
        bench = self.tree()
        bench.hear(4, ("link", 1, (6, 1), 3))
        # (3, 2) - (4, 1) and (1, 6) - (6, 1) are lost, so 4 and 6 leave; the new link joins just these two.
        self.assertEqual((bench.brain.present(), bench.brain.phase), ([1, 2, 3, 5], "rest"))
        self.assertEqual(bench.brain.seen.links(), [((1, 2), (2, 1)), ((2, 2), (3, 1)), ((2, 5), (5, 1)), ((4, 1), (6, 1))])

    def test_another_link_takes_one_end(self):
        bench = self.tree()
        bench.hear(3, ("link", 6, (6, 1), 3))
        self.assertEqual((bench.brain.present(), bench.brain.phase, bench.brain.target), ([1, 2, 3, 4, 5], "lay", 6))

    def test_those_that_left_are_adopted_again(self):
        bench = self.tree().link((6, 2), (3, 6))
        bench.hear(1, ("port", 2, 0))
        self.assertEqual(bench.brain.present(), [1, 6])
        bench.until_present(1, 2, 3, 4, 5, 6)
        self.assertEqual(bench.brain.parents, {6: (1, 6), 3: (6, 2), 2: (3, 1), 4: (3, 2), 5: (2, 5)})
        self.assertEqual(bench.brain.laid[6], {0: 1, 3: 2, 2: 2, 4: 2, 5: 2})


class Bringing(unittest.TestCase):
    def test_first_version(self):
        bench = chain(2)
        bench.brain.stage.offer(("sum", [("seq", [("test", ("is", "switch", 2)), ruled(2)]),
                                         ("seq", [("test", ("is", "switch", 1)), ruled(1, 5)])]))
        phases = {}
        while not phases or bench.brain.phase != "rest":
            bench.tick()
            phases.setdefault(bench.brain.phase, bench.brain.stage.now)
        self.assertEqual(phases, {"add": 0, "tag": 0, "drop": 0, "rest": 1})
        orders = bench.taken()
        self.assertEqual([row for row in orders if row[0] == 1],
                         to(1, *adds(1, 1, 5), BARRIER, ("tag", 1, 1), BARRIER, BARRIER))
        self.assertEqual([row for row in orders if row[0] == 2],
                         to(2, *adds(1, 2), BARRIER, ("tag", 1, 2), BARRIER, BARRIER))
        self.assertEqual((bench.brain.stage.now, bench.brain.stage.waits), (1, 0))

    def test_next_version(self):
        bench = chain(2)
        bench.brain.stage.offer(ruled(3))
        bench.brain.stage.settle()
        bench.brain.stage.offer(ruled(1, 2))
        bench.until_phase("add").until_phase("rest")
        orders = bench.taken()
        for switch in (1, 2):
            self.assertEqual([row for row in orders if row[0] == switch],
                             to(switch, *adds(2, 1, 2), BARRIER, ("tag", 2, 1), BARRIER, ("drop", 1), BARRIER))
        self.assertEqual((bench.brain.stage.now, bench.brain.stage.waits), (2, 0))

    def test_a_policy_without_rules(self):
        bench = Bench(1).until_present(1)
        bench.taken()
        bench.brain.stage.offer(STOP)
        bench.until_phase("add").until_phase("rest")
        self.assertEqual(bench.taken(), to(1, BARRIER, ("tag", 1, 0), BARRIER, BARRIER))

    def test_phase_by_phase_for_all(self):
        bench = chain(2)
        bench.holding = [1, 2]
        bench.brain.stage.offer(ruled(1))
        for phase, then in (("add", "tag"), ("tag", "drop"), ("drop", "rest")):
            self.assertEqual(bench.until_phase(phase).brain.stage.now, 0)
            bench.until(lambda: len(bench.held) == 2)
            self.assertEqual([switch for switch, _ in bench.held], [1, 2])
            (_, first), (_, second) = bench.held
            self.assertEqual(second, first + 1)
            bench.held = []
            bench.hear(2, ("done", second, 0))
            bench.tick(5)
            self.assertEqual(bench.brain.phase, phase)
            bench.hear(1, ("done", first, 0))
            self.assertEqual(bench.brain.phase, then)
        self.assertEqual((bench.brain.stage.now, bench.brain.stage.waits), (1, 0))

    def test_begins_at_what_comes_next(self):
        bench = Bench(1).until_present(1)
        bench.brain.stage.offer(ruled(1))
        self.assertEqual(bench.brain.phase, "rest")
        bench.brain.tick()
        self.assertEqual(bench.brain.phase, "add")
        bench = Bench(1).until_present(1)
        bench.brain.stage.offer(ruled(1))
        bench.hear(1, ("port", 1, 1))
        self.assertEqual(bench.brain.phase, "add")

    def test_switch_with_errors_leaves(self):
        for phase in ("add", "tag", "drop"):
            bench = chain(3)
            bench.brain.stage.offer(ruled(1))
            to_bringing(bench, phase)
            numbers = dict(bench.held)
            # At once, though others are awaited; and 3 hangs on 2.
            bench.hear(2, ("done", numbers[2], 1))
            self.assertEqual((bench.brain.present(), bench.brain.phase), ([1], phase))
            bench.holding = []
            bench.hear(1, ("done", numbers[1], 0))
            bench.until_phase("lay")
            self.assertEqual((bench.brain.stage.now, bench.brain.target), (1, 2))
            bench.until_present(1, 2, 3)

    def test_all_switches_leave(self):
        bench = chain(2)
        bench.holding = [1, 2]
        bench.brain.stage.offer(ruled(1))
        bench.until(lambda: len(bench.held) == 2)
        bench.hear(1, ("done", bench.held[0][1], 1))
        # Nobody is left to be told, so the version is settled.
        self.assertEqual((bench.brain.present(), bench.brain.phase, bench.brain.target), ([], "hail", 1))
        self.assertEqual((bench.brain.stage.now, bench.brain.stage.waits), (1, 0))

    def test_switch_leaves_meanwhile(self):
        bench = chain(2)
        bench.holding = [2]
        bench.brain.stage.offer(ruled(1))
        bench.until_phase("add").tick(4)
        bench.mute = [2]
        bench.until(lambda: bench.brain.present() == [1])
        self.assertIn(bench.brain.phase, ("tag", "drop"))
        bench.until_phase("lay")
        self.assertEqual(bench.brain.stage.now, 1)

    def test_link_is_lost_meanwhile(self):
        bench = chain(2)
        bench.holding = [1, 2]
        bench.brain.stage.offer(ruled(1))
        bench.until(lambda: len(bench.held) == 2)
        bench.hear(2, ("port", 1, 0))
        self.assertEqual((bench.brain.present(), bench.brain.phase), ([1], "add"))

    def test_full_line(self):
        # What had no room is not in the table, so the switch leaves before its version is taken for whole.
        bench = chain(3)
        fill(bench.brain.lines[2])
        bench.brain.stage.offer(ruled(1))
        bench.obey = lambda switch, order: Bench.obey(bench, switch, order) if order is not None else None
        bench.brain.tick()
        self.assertEqual((bench.brain.present(), bench.brain.phase), ([1], "add"))
        bench.until_present(1, 2, 3)
        self.assertEqual((bench.brain.stage.now, bench.brain.stage.waits), (1, 0))

    def test_full_line_of_one_of_several(self):
        bench = Bench(3).link((1, 2), (2, 1)).link((1, 3), (3, 1)).until_present(1, 2, 3)
        fill(bench.brain.lines[2])
        bench.brain.stage.offer(ruled(1))
        bench.brain.tick()
        self.assertEqual((bench.brain.present(), bench.brain.phase), ([1, 3], "add"))

    def test_full_line_of_all(self):
        bench = Bench(1).until_present(1)
        fill(bench.brain.lines[1])
        bench.brain.stage.offer(ruled(1))
        bench.brain.tick()
        # Nobody is left to be told.
        self.assertEqual((bench.brain.present(), bench.brain.phase, bench.brain.stage.now), ([], "hail", 1))

    def test_behind_an_adoption_with_errors(self):
        bench = chain(2, present=1)
        bench.errors = {1: 1}
        bench.brain.stage.offer(ruled(1))
        bench.until_phase("add")
        self.assertEqual((bench.brain.present(), bench.brain.target), ([1], 2))

    def test_behind_adoptions_that_have_not_failed(self):
        bench = Bench(3).until_present(1)
        bench.link((1, 2), (2, 1)).link((1, 3), (3, 1))
        bench.brain.stage.offer(ruled(1))
        bench.mute = [3]
        phases = []
        while bench.brain.stage.waits:
            bench.tick()
            row = (bench.brain.phase, bench.brain.target)
            if row not in phases:
                phases.append(row)
            if row[0] == "add":
                self.assertEqual(bench.brain.epoch, 3)
        # 2 is adopted, then 3 is tried once; behind that, the version is brought in, and 3 is tried again.
        self.assertEqual([target for phase, target in phases if phase == "hail"], [2, 3])
        self.assertEqual([phase for phase, _ in phases[-3:]], ["add", "tag", "drop"])
        self.assertEqual((bench.brain.phase, bench.brain.target, bench.brain.present()), ("lay", 3, [1, 2]))

    def test_behind_the_switch_1(self):
        bench = Bench(1)
        bench.brain.stage.offer(ruled(1))
        bench.mute = [1]
        bench.tick(200)
        self.assertEqual((bench.brain.phase, bench.brain.epoch > 2, bench.brain.stage.waits), ("hail", True, 1))
        bench.mute = []
        bench.until(lambda: bench.brain.stage.now == 1)

    def test_not_while_one_is_adopted(self):
        bench = chain(2, present=1)
        bench.until_phase("lay")
        bench.brain.stage.offer(ruled(1))
        bench.until_phase("add")
        self.assertEqual(bench.brain.present(), [1, 2])


class Ticks(unittest.TestCase):
    def test_probes_of_one_switch(self):
        bench = Bench(1).until_present(1)
        bench.tick(40)
        nonces = [nonce for _, _, nonce in bench.probes]
        self.assertEqual(nonces, list(range(nonces[0], nonces[-1] + 1, 2)))
        self.assertEqual(nonces[0] % 2, 0)
        self.assertGreater(len(nonces), 15)
        self.assertEqual([(switch, port) for switch, port, _ in bench.probes],
                         [(1, nonce // 2 % 6 + 1) for nonce in nonces])

    def test_probes_of_several_switches(self):
        bench = chain(3)
        bench.tick(100)
        self.assertEqual(bench.probes, [
            (nonce // 2 % 18 // 6 + 1, nonce // 2 % 18 % 6 + 1, nonce) for _, _, nonce in bench.probes])
        nonces = [nonce for _, _, nonce in bench.probes]
        self.assertEqual(nonces[10:], list(range(nonces[10], nonces[-1] + 1, 2)))
        self.assertEqual({(switch, port) for switch, port, _ in bench.probes},
                         {(switch, port) for switch in (1, 2, 3) for port in range(1, 7)})

    def test_probes_only_of_switches_in_session(self):
        bench = Bench(2).until_present(1)
        bench.tick(60)
        self.assertEqual({switch for switch, _, _ in bench.probes}, {1})
        self.assertEqual({nonce // 2 % 12 // 6 for _, _, nonce in bench.probes}, {0})

    def test_probes_are_lost_in_a_full_line(self):
        bench = Bench(1).until_present(1)
        bench.mute = [1]
        fill(bench.brain.lines[1])
        bench.tick(6)
        self.assertEqual((bench.brain.present(), bench.brain.phase), ([1], "rest"))

    def test_old_links(self):
        for count in (2, 3):
            bench = Bench(count).link((1, 2), (2, 1)).until_present(1, 2)
            bench.hear(1, ("link", 2, (2, 1), 0))
            bench.lasting = False
            last = bench.brain.now
            bench.until(lambda: bench.brain.now == last + 40 * count)
            self.assertEqual((bench.brain.seen.links(), bench.brain.present()), ([((1, 2), (2, 1))], [1, 2]))
            bench.tick()
            self.assertEqual((bench.brain.seen.links(), bench.brain.present()), ([], [1]))

    def test_old_links_come_before_lines(self):
        bench = Bench(2).link((1, 2), (2, 1))
        bench.lasting = False
        bench.until_present(1, 2)
        bench.until(lambda: bench.brain.now == 80)
        bench.brain.lines[2].send("x")
        self.assertEqual(bench.brain.present(), [1, 2])
        self.assertNotIn(2, [read_frame(text)[1] for text in bench.brain.tick()])
        self.assertEqual(bench.brain.present(), [1])

    def test_old_links_give_an_adoption_up(self):
        bench = Bench(2).until_present(1).link((1, 2), (2, 1))
        bench.holding = [1]
        bench.lasting = False
        bench.until_phase("lay")
        ticks = bench.until(lambda: bench.brain.phase == "rest")
        self.assertEqual((ticks, bench.brain.seen.links(), bench.brain.present()), (80, [], [1]))

    def test_lines_ascending(self):
        bench = chain(3)
        for switch in (3, 2, 1):
            bench.brain.lines[switch].send(f"to {switch}")
        texts = [read_frame(text) for text in bench.brain.tick()]
        self.assertEqual([frame[7] for frame in texts if frame[7].startswith("to")], ["to 1", "to 2", "to 3"])

    def test_lines_come_before_the_probe_and_what_comes_next(self):
        bench = Bench(1).until_present(1)
        bench.until(lambda: bench.brain.now % 2 == 0)
        bench.brain.stage.offer(ruled(1))
        now = bench.brain.now
        self.assertEqual([text for text in bench.brain.tick() if "data" in text], [])
        self.assertEqual(bench.brain.phase, "add")
        orders = [read_order(read_frame(text)[7]) for text in bench.brain.tick() if "data" in text]
        # The probe was sent before the orders of the phase.
        self.assertEqual([order[0] for order in orders], ["probe", "add", "barrier"])
        self.assertEqual(orders[0][2], now)

    def test_limit_comes_before_what_comes_next(self):
        # The limit of 400 ticks fails the adoption by one end, and the same tick begins one by the other end.
        bench = Bench(2).until_present(1).link((1, 2), (2, 1)).link((1, 3), (2, 2))
        bench.holding = [1]
        bench.until_phase("lay")
        began = bench.brain.now - 1
        self.assertEqual(bench.brain.laid[1][2], 2)
        while bench.brain.now < began + 400:
            bench.tick()
        self.assertEqual(bench.brain.laid[1][2], 2)
        bench.tick()
        self.assertEqual((bench.brain.phase, bench.brain.laid[1][2]), ("lay", 3))


class Hearing(unittest.TestCase):
    def assertNoEffect(self, bench, text):
        before = copy.deepcopy(bench.state())
        bench.brain.hear(text)
        self.assertEqual(bench.state(), before, text)

    def test_malformed_frames(self):
        for bench in (Bench(2), chain(2, present=1), chain(2)):
            for text in ("", "x", up(1, "open", 1) + "0", up(1, "open", 1)[:-1], "segment 0 1 12 1 open 1 *0"):
                self.assertNoEffect(bench, text)

    def test_data_and_probes(self):
        bench = chain(2)
        for frame in (("datum", 1, 2, 3, (4, 5, 6)), ("probe", (1, 1), 3, None), ("probe", (1, 1), 3, (3, 3))):
            self.assertNoEffect(bench, write_frame(frame))

    def test_nothing_comes_next_by_a_frame_without_effect(self):
        for text in ("x", up(1, "here", 1), write_frame(("probe", (1, 1), 3, None))):
            bench = Bench(2)
            self.assertNoEffect(bench, text)
            self.assertEqual((bench.brain.phase, bench.brain.target), ("rest", None))
        bench = chain(2, present=1)
        bench.brain.stage.offer(ruled(1))
        for text in ("x", up(1, "data", 0, "port 1 1", to=2), up(2, "here", 1)):
            self.assertNoEffect(bench, text)

    def test_to_others(self):
        bench = chain(2)
        guest = bench.guests[1]
        number = guest._body.sender.first
        for switch in (1, 2):
            text = up(1, "data", number, "port 2 0", to=switch)
            self.assertNoEffect(bench, text)
        bench.brain.hear(up(1, "data", number, "port 2 0"))
        self.assertEqual(bench.brain.present(), [1])

    def test_of_switches_that_are_not_in_session(self):
        bench = chain(3, present=2)
        bench.holding = [1, 2]
        bench.until_phase("lay")
        bench.brain.lines[3].begin(2, 0)
        for sender in (0, 3, 4, 8):
            for kind, number in (("here", 1), ("open", 1), ("data", 0), ("ack", 0)):
                self.assertNoEffect(bench, up(sender, kind, number, "port 1 0", epoch=2))
        self.assertEqual(bench.brain.lines[3].boot, 0)

    def test_of_a_switch_that_left(self):
        bench = chain(2)
        number = bench.guests[2]._body.sender.first
        bench.hear(1, ("port", 2, 0))
        self.assertEqual(bench.brain.present(), [1])
        self.assertNoEffect(bench, up(2, "data", number, "link 1 1 2 0", epoch=2))

    def test_of_another_epoch(self):
        bench = chain(2)
        number = bench.guests[1]._body.sender.first
        for epoch in (0, 2, 3):
            self.assertNoEffect(bench, up(1, "data", number, "port 2 0", epoch=epoch))

    def test_links_of_ends_that_may_not_be(self):
        bench = chain(2)
        for order in (("link", 0, (2, 3), 1), ("link", 3, (0, 3), 1), ("link", 3, (3, 3), 1), ("link", 3, (2, 0), 1),
                      ("link", 3, (1, 4), 1), ("link", 3, (8, 6), 1)):
            before = bench.state()
            bench.hear(1, order)
            self.assertEqual(bench.state(), before)
            bench.tick()

    def test_links_with_their_tick(self):
        bench = chain(2)
        bench.until(lambda: bench.brain.now == 50)
        bench.hear(2, ("link", 4, (1, 4), 7))
        self.assertEqual(bench.brain.seen.links(), [((1, 2), (2, 1)), ((1, 4), (2, 4))])
        self.assertEqual((bench.brain.seen.old(59, 10), bench.brain.seen.old(60, 10)),
                         ([((1, 2), (2, 1))], [((1, 4), (2, 4))]))

    def test_links_and_ports_of_the_one_that_is_adopted(self):
        bench = chain(2, present=1)
        bench.holding = [2]
        bench.until_phase("check").tick(3)
        links = bench.brain.seen.links()
        bench.hear(2, ("port", 1, 0))
        bench.hear(2, ("link", 3, (1, 3), 0))
        bench.hear(2, ("link", 1, (1, 3), 0))
        self.assertEqual((bench.brain.phase, bench.brain.seen.links()), ("check", links))
        bench.hear(2, ("done", bench.held[0][1], 0))
        self.assertEqual((bench.brain.present(), bench.brain.seen.links()), ([1, 2], links))

    def test_ports_that_begin_to_live(self):
        bench = chain(2)
        before = bench.state()
        for port in range(7):
            bench.hear(1, ("port", port, 1))
            bench.tick()
        bench.hear(1, ("port", 0, 0))
        self.assertEqual(bench.state()[1:], before[1:])

    def test_orders_to_switches_and_texts_that_are_none(self):
        bench = chain(2)
        before = bench.state()
        for order in (("wipe",), ("drop", 1), ("way", 1, 2), ("unway", 1), ("probe", 1, 1), ("barrier", 4), "x", "",
                      "port 2 2", "done 1"):
            bench.hear(1, order)
            bench.tick()
        self.assertEqual(bench.state()[1:], before[1:])

    def test_what_comes_behind_leaving_in_one_frame(self):
        # Two messages whose turn comes at once: the first one makes the switch leave, so the second one is not heard.
        bench = chain(2)
        bench.holding = [1, 2]
        bench.brain.stage.offer(ruled(1))
        bench.until(lambda: len(bench.held) == 2)
        bench.tick(3)
        number = bench.guests[2]._body.sender.first
        bench.brain.hear(up(2, "data", number + 1, "link 4 1 4 0", epoch=2))
        bench.brain.hear(up(2, "data", number, write_order(("done", bench.held[1][1], 1)), epoch=2))
        self.assertEqual((bench.brain.present(), bench.brain.seen.links()), ([1], [((1, 2), (2, 1))]))


class BeginningAnew(unittest.TestCase):
    def test_what_is_kept(self):
        bench = chain(3)
        old = bench.brain
        old.stage.offer(ruled(1))
        old.stage.settle()
        old.stage.offer(ruled(2))
        new = old.restarted()
        self.assertIsNot(new, old)
        self.assertIs(new.stage, old.stage)
        self.assertEqual((new.now, new.epoch), (old.now, old.epoch))
        self.assertEqual((new.seen.links(), new.parents, new.laid, new.present()), ([], {}, {}, []))
        self.assertEqual((new.phase, new.target, list(new.lines)), ("rest", None, [1, 2, 3]))
        self.assertEqual([(line.state, line.epoch) for line in new.lines.values()], [("none", 0)] * 3)
        # The one that fell is as it was.
        self.assertEqual((old.present(), len(old.seen.links())), ([1, 2, 3], 2))

    def test_epochs_and_barriers_go_on(self):
        bench = chain(2)
        numbers = []
        for epoch in (3, 5):
            bench.brain = bench.brain.restarted()
            bench.link((1, 2), (2, 1)).tick()
            self.assertEqual((bench.brain.phase, bench.brain.target, bench.brain.epoch), ("hail", 1, epoch))
            bench.orders = []
            bench.until_present(1, 2)
            numbers.extend([order[1] for _, order in bench.orders if order[0] == "barrier"])
        self.assertEqual(numbers, [4, 5, 6, 7, 8, 9])

    def test_in_the_middle_of_things(self):
        for phase in ("lay", "hail", "check", "add", "tag", "drop"):
            bench = chain(2, present=1)
            if phase in ("add", "tag", "drop"):
                bench.until_present(1, 2)
                bench.brain.stage.offer(ruled(2))
            bench.until_phase(phase)
            bench.brain = bench.brain.restarted()
            self.assertEqual((bench.brain.phase, bench.brain.present()), ("rest", []))
            bench.until_present(1)
            bench.link((1, 2), (2, 1)).until_present(1, 2)
            bench.until_phase("rest")
            self.assertEqual(bench.brain.stage.waits, 0 if phase in ("lay", "hail", "check") else bench.brain.stage.waits)

    def test_failures_are_forgotten(self):
        bench = Bench(2).until_present(1).link((1, 2), (2, 1)).link((1, 3), (2, 2))
        bench.mute = [2]
        bench.until_phase("hail").until_phase("lay")
        self.assertEqual(bench.brain.laid[1][2], 3)
        bench.brain = bench.brain.restarted()
        bench.until_present(1).link((1, 2), (2, 1)).link((1, 3), (2, 2)).until_phase("lay")
        self.assertEqual(bench.brain.laid[1][2], 2)

    def test_of_a_new_one(self):
        new = Brain(2).restarted()
        self.assertEqual((new.now, new.epoch, new.phase, new.target), (0, 0, "rest", None))


if __name__ == "__main__":
    unittest.main()
