import copy
import unittest

from hangbridge.compiling import rules_for
from hangbridge.errors import PolicyError, RoomError, StateError
from hangbridge.stages import Stage

STOP = ("sum", [])


def at(switch, policy):
    return ("seq", [("test", ("is", "switch", switch)), policy])


def ruled(many, version=0):
    """Return a policy that has so many rules at a switch."""
    parts = [("seq", [("test", ("is", "src", number // 7)), ("test", ("is", "dst", number % 7)), ("set", "port", 1),
                      ("set", "kind", version)]) for number in range(many)]
    return ("sum", parts)


def outs(many):
    """Return a policy with one rule, which has so many outs."""
    return ("seq", [("set", "port", 1), ("sum", [("set", "src", number) for number in range(many)])])


def brought(*policies, count=2):
    """Return a stage whose current policy is the last one of some."""
    stage = Stage(count)
    for policy in policies:
        stage.offer(policy)
        stage.settle()
    return stage


def state(stage):
    """Return all that can be seen of a stage."""
    versions = range(stage.taken + 3)
    return (stage.now, stage.waits, stage.taken, [stage.policy(version) for version in versions],
            [[stage.rules(version, switch) for switch in range(1, 9)] for version in versions])


class Offering(unittest.TestCase):
    def assertRefused(self, stage, policy, error, told):
        before, given = copy.deepcopy(state(stage)), copy.deepcopy(policy)
        with self.assertRaises(error) as caught:
            stage.offer(policy)
        attributes = {PolicyError: "way", StateError: "state", RoomError: "place"}
        self.assertEqual(getattr(caught.exception, attributes[error]), told)
        self.assertEqual((state(stage), policy), (before, given))

    def test_new_stage(self):
        stage = Stage(3)
        self.assertEqual((stage.now, stage.waits, stage.taken), (0, 0, 0))
        self.assertEqual((stage.rules(0, 1), stage.rules(1, 1), stage.policy(0), stage.policy(1)), ([], [], None, None))

    def test_versions(self):
        stage = Stage(2)
        for version in range(1, 6):
            self.assertEqual(stage.offer(ruled(version)), version)
            self.assertEqual((stage.now, stage.waits, stage.taken), (version - 1, version, version))
            stage.settle()
            self.assertEqual((stage.now, stage.waits, stage.taken), (version, 0, version))

    def test_no_policy(self):
        stage = Stage(2)
        for policy, way in ((("set", "port", 7), ()), (("sum", [STOP, ("set", "color", 1)]), (1,)),
                            (("star", ("test", ("not", ("is", "src", 16)))), (0, 0, 0)), (("go", []), ())):
            self.assertRefused(stage, policy, PolicyError, way)
        self.assertEqual(stage.offer(STOP), 1)

    def test_a_set_of_the_switch(self):
        for policy in (("set", "switch", 1), ("star", ("sum", [STOP, ("seq", [("set", "switch", 8)])]))):
            self.assertRefused(Stage(2), policy, PolicyError, ())

    def test_a_wrong_part_comes_before_a_set_of_the_switch(self):
        policy = ("sum", [("set", "switch", 1), ("set", "port", 7)])
        self.assertRefused(Stage(2), policy, PolicyError, (1,))

    def test_while_one_waits(self):
        stage = Stage(2)
        stage.offer(ruled(1))
        self.assertRefused(stage, ruled(2), StateError, "waits")
        self.assertRefused(stage, ("set", "port", 7), PolicyError, ())
        self.assertRefused(stage, ("set", "switch", 1), PolicyError, ())
        self.assertRefused(stage, ruled(41), StateError, "waits")
        self.assertRefused(stage, outs(9), StateError, "waits")
        stage.settle()
        self.assertEqual(stage.offer(ruled(2)), 2)

    def test_two_hundred_versions(self):
        stage = brought(*[STOP] * 199, count=1)
        self.assertEqual(stage.offer(ruled(1)), 200)
        self.assertRefused(stage, STOP, StateError, "waits")
        stage.settle()
        self.assertEqual((stage.now, stage.taken), (200, 200))
        self.assertRefused(stage, STOP, RoomError, "versions")
        self.assertRefused(stage, ruled(41), RoomError, "versions")
        self.assertRefused(stage, outs(9), RoomError, "versions")
        self.assertRefused(stage, ("set", "switch", 1), PolicyError, ())

    def test_more_than_forty_rules(self):
        self.assertEqual(Stage(1).offer(ruled(40)), 1)
        self.assertRefused(Stage(3), ruled(41), RoomError, 1)
        self.assertRefused(Stage(3), at(3, ruled(41)), RoomError, 3)
        self.assertRefused(Stage(3), ("sum", [at(3, ruled(41)), at(2, ruled(42))]), RoomError, 2)
        # There is no switch 4 here.
        self.assertEqual(Stage(3).offer(at(4, ruled(41))), 1)

    def test_outs(self):
        self.assertEqual(Stage(2).offer(outs(8)), 1)
        self.assertRefused(Stage(2), outs(9), RoomError, "outs")
        self.assertRefused(Stage(2), at(2, outs(9)), RoomError, "outs")
        self.assertEqual(Stage(2).offer(at(3, outs(9))), 1)
        self.assertRefused(Stage(2), ("seq", [("test", ("is", "src", 7)), outs(9)]), RoomError, "outs")

    def test_rules_of_all_switches_come_before_outs(self):
        self.assertRefused(Stage(2), ("sum", [at(1, outs(9)), at(2, ruled(41))]), RoomError, 2)

    def test_room_without_a_current_policy(self):
        self.assertEqual(Stage(8).offer(ruled(40)), 1)

    def test_room_to_the_last_rule(self):
        for count in (1, 8):
            room = 64 - (count + 1) - 40
            stage = brought(ruled(40), count=count)
            self.assertRefused(stage, ruled(room + 1, 1), RoomError, "rules")
            self.assertEqual(stage.offer(ruled(room, 1)), 2)
            stage = brought(ruled(room), count=count)
            self.assertEqual(stage.offer(ruled(40, 1)), 2)
            stage = brought(ruled(room + 1), count=count)
            self.assertRefused(stage, ruled(40, 1), RoomError, "rules")
            self.assertEqual(stage.offer(ruled(39, 1)), 2)

    def test_the_current_policy_counts_and_not_the_one_before(self):
        stage = brought(ruled(40), ruled(1), count=1)
        self.assertEqual(stage.offer(ruled(40, 1)), 3)

    def test_room_at_each_switch(self):
        stage = brought(at(2, ruled(40)))
        self.assertRefused(stage, at(2, ruled(30, 1)), RoomError, "rules")
        self.assertEqual(stage.offer(at(1, ruled(30, 1))), 2)

    def test_outs_and_rules_at_the_switches_in_order(self):
        full = brought(ruled(40))
        room, wide = ruled(30, 1), ("seq", [("test", ("is", "kind", 9)), outs(9)])
        self.assertRefused(full, ("sum", [at(1, room), at(2, wide)]), RoomError, "rules")
        self.assertRefused(full, ("sum", [at(1, wide), at(2, room)]), RoomError, "outs")
        # The wide outs are told first at one switch.
        self.assertRefused(full, ("seq", [room, outs(9)]), RoomError, "outs")


class Settling(unittest.TestCase):
    def test_none(self):
        for stage in (Stage(1), brought(STOP)):
            before = state(stage)
            with self.assertRaises(StateError) as caught:
                stage.settle()
            self.assertEqual(caught.exception.state, "none")
            self.assertEqual(state(stage), before)

    def test_refused_offers_do_not_wait(self):
        stage = Stage(1)
        with self.assertRaises(RoomError):
            stage.offer(outs(9))
        with self.assertRaises(StateError):
            stage.settle()


class Telling(unittest.TestCase):
    def test_rules_and_policies(self):
        one, two, three = ruled(2), at(2, ruled(3)), outs(3)
        stage = brought(one, two, count=2)
        stage.offer(three)
        self.assertEqual([stage.policy(version) for version in range(6)], [None, None, two, three, None, None])
        for version, policy in ((2, two), (3, three)):
            for switch in (1, 2):
                self.assertEqual(stage.rules(version, switch), rules_for(policy, switch))
        self.assertEqual(stage.rules(2, 1), [])
        self.assertEqual([stage.rules(version, 2) for version in (0, 1, 4)], [[], [], []])
        stage.settle()
        self.assertEqual([stage.policy(version) for version in range(5)], [None, None, None, three, None])
        self.assertEqual((stage.rules(2, 2), stage.rules(3, 2)), ([], rules_for(three, 2)))

    def test_what_is_returned_is_its_own(self):
        stage = brought(ruled(2))
        stage.offer(ruled(3))
        stage.rules(1, 1).clear()
        stage.rules(2, 1).pop()
        stage.rules(2, 1)[0][1].clear()
        stage.policy(2)[1].clear()
        self.assertEqual((stage.rules(1, 1), stage.rules(2, 1)), (rules_for(ruled(2), 1), rules_for(ruled(3), 1)))
        self.assertEqual(stage.policy(2), ruled(3))

    def test_stages_share_nothing(self):
        one, other = Stage(1), Stage(1)
        one.offer(STOP)
        self.assertEqual((other.waits, other.taken, other.policy(1)), (0, 0, None))


if __name__ == "__main__":
    unittest.main()
