import random
import unittest

from hangbridge.errors import RoomError, StateError
from hangbridge.lanes import Lane
from hangbridge.frames import read_frame, write_frame
from hangbridge.sessions import Guest, Line


def down(epoch, kind, number, text="", to=2):
    """Return a segment from the controller to a switch."""
    return ("segment", to, 0, 12, epoch, kind, number, text)


def up(epoch, kind, number, text="", sender=2):
    """Return a segment from a switch to the controller."""
    return ("segment", 0, sender, 12, epoch, kind, number, text)


def hailing(epoch=5, now=0):
    line = Line(2)
    line.begin(epoch, now)
    return line


def opened(epoch=5, now=0):
    """Return an open line, to which nothing was sent."""
    line = hailing(epoch, now)
    line.take(up(epoch, "here", 3), now)
    line.take(up(epoch, "open", 3), now)
    return line


def in_session(epoch=5, boot=3):
    """Return a guest in a session that has heard something and said its ack."""
    guest = Guest(2, boot)
    guest.take(down(epoch, "hail", boot), 0)
    guest.take(down(epoch, "data", 0, "first"), 0)
    guest.tick(0)
    return guest


class BeginningLines(unittest.TestCase):
    def test_new_line(self):
        line = Line(2)
        self.assertEqual((line.epoch, line.boot, line.state), (0, 0, "none"))
        for now in range(20):
            self.assertEqual(line.tick(now), [])
        self.assertEqual(line.take(up(0, "open", 0), 1), [])
        self.assertEqual(line.take(up(0, "data", 0, "x"), 1), [])
        self.assertEqual((line.state, line.tick(21)), ("none", []))

    def test_begin(self):
        line = Line(2)
        line.begin(1, 7)
        self.assertEqual((line.epoch, line.boot, line.state), (1, 0, "hailing"))
        self.assertEqual(line.tick(7), [down(1, "hail", 0)])

    def test_begin_with_the_same_or_a_lesser_epoch(self):
        line = opened(5)
        line.send("a")
        for epoch in (5, 4, 0):
            with self.assertRaises(StateError) as caught:
                line.begin(epoch, 3)
            self.assertEqual(caught.exception.state, "epoch")
        self.assertEqual((line.epoch, line.boot, line.state), (5, 3, "open"))
        self.assertEqual(line.tick(3), [down(5, "data", 0, "a")])
        with self.assertRaises(StateError):
            Line(2).begin(0, 0)

    def test_begin_anew(self):
        line = opened(5)
        line.send("old")
        line.tick(0)
        line.take(up(5, "data", 0, "x"), 1)
        line.begin(6, 9)
        self.assertEqual((line.epoch, line.boot, line.state), (6, 0, "hailing"))
        self.assertEqual(line.tick(9), [down(6, "hail", 0)])
        line.take(up(6, "here", 1), 10)
        line.take(up(6, "open", 1), 10)
        line.send("new")
        self.assertEqual(line.tick(10), [down(6, "data", 0, "new")])
        self.assertEqual(line.take(up(6, "data", 0, "y"), 11), ["y"])

    def test_epochs_may_be_left_out(self):
        line = hailing(5)
        line.begin(90, 1)
        self.assertEqual(line.tick(1), [down(90, "hail", 0)])


class HailingLines(unittest.TestCase):
    def test_hails_until_it_fails(self):
        line = hailing(5, 10)
        said = {}
        for now in range(10, 200):
            rows = line.tick(now)
            if rows:
                said[now] = rows
            self.assertEqual(line.state, "hailing" if now < 70 else "failed")
        self.assertEqual(said, {now: [down(5, "hail", 0)] for now in (10, 14, 22, 38, 54, 70)})

    def test_here_with_another_number(self):
        line = hailing(5, 0)
        line.tick(0)
        self.assertEqual(line.take(up(5, "here", 3), 1), [])
        self.assertEqual((line.boot, line.state), (3, "hailing"))
        said = [now for now in range(1, 200) if line.tick(now) == [down(5, "hail", 3)]]
        self.assertEqual(said, [1, 5, 13, 29, 45, 61])
        self.assertEqual(line.state, "failed")

    def test_here_begins_the_count_anew(self):
        line = hailing(5, 0)
        for now in range(50):
            line.tick(now)
        line.take(up(5, "here", 3), 50)
        said = [now for now in range(50, 200) if line.tick(now)]
        self.assertEqual(said, [50, 54, 62, 78, 94, 110])

    def test_here_with_the_same_number(self):
        line = hailing(5, 0)
        line.tick(0)
        line.take(up(5, "here", 0), 1)
        line.take(up(5, "here", 3), 1)
        line.tick(1)
        line.take(up(5, "here", 3), 2)
        self.assertEqual([now for now in range(2, 14) if line.tick(now)], [5, 13])

    def test_here_with_a_lesser_number(self):
        line = hailing(5, 0)
        line.take(up(5, "here", 3), 1)
        line.take(up(5, "here", 2), 1)
        self.assertEqual(line.boot, 2)
        self.assertEqual(line.tick(1), [down(5, "hail", 2)])

    def test_open_with_the_number_that_is_known(self):
        line = hailing(5, 0)
        line.tick(0)
        line.take(up(5, "here", 3), 1)
        line.tick(1)
        self.assertEqual(line.take(up(5, "open", 3), 2), [])
        self.assertEqual((line.boot, line.state), (3, "open"))
        for now in range(2, 200):
            self.assertEqual(line.tick(now), [])
        self.assertEqual(line.state, "open")

    def test_open_with_another_number(self):
        line = hailing(5, 0)
        line.take(up(5, "here", 3), 0)
        for number in (0, 2, 4):
            line.take(up(5, "open", number), 0)
            self.assertEqual((line.boot, line.state), (3, "hailing"))
        self.assertEqual(line.tick(0), [down(5, "hail", 3)])

    def test_open_with_no_number(self):
        line = hailing(5, 0)
        for number in (0, 1):
            line.take(up(5, "open", number), 0)
            self.assertEqual((line.boot, line.state), (0, "hailing"))

    def test_segments_of_others(self):
        line = hailing(5, 0)
        line.tick(0)
        for segment in (up(5, "here", 3, sender=3), up(4, "here", 3), up(6, "here", 3), up(5, "here", 3, sender=0)):
            self.assertEqual(line.take(segment, 1), [])
            self.assertEqual((line.boot, line.tick(1)), (0, []))
        line.take(up(5, "here", 3), 1)
        for segment in (up(5, "open", 3, sender=3), up(4, "open", 3), up(6, "open", 3)):
            line.take(segment, 1)
            self.assertEqual(line.state, "hailing")

    def test_data_and_acks_have_no_effect(self):
        line = hailing(5, 0)
        line.send("a")
        self.assertEqual(line.take(up(5, "data", 0, "x"), 0), [])
        line.take(up(5, "ack", 0), 0)
        line.take(up(5, "hail", 3), 0)
        self.assertEqual(line.tick(0), [down(5, "hail", 0)])
        line.take(up(5, "here", 3), 1)
        line.take(up(5, "open", 3), 1)
        self.assertEqual(line.tick(1), [down(5, "data", 0, "a")])
        self.assertEqual(line.take(up(5, "data", 0, "x"), 2), ["x"])

    def test_messages_wait_until_it_is_open(self):
        line = hailing(5, 0)
        for number in range(5):
            line.send(str(number))
        self.assertEqual(line.tick(0), [down(5, "hail", 0)])
        self.assertEqual(line.tick(1), [])
        line.take(up(5, "here", 3), 1)
        line.take(up(5, "open", 3), 1)
        self.assertEqual(line.tick(1), [down(5, "data", number, str(number)) for number in range(4)])


class OpenLines(unittest.TestCase):
    def test_says_data(self):
        line = opened()
        line.send("a")
        line.send("b")
        self.assertEqual(line.tick(1), [down(5, "data", 0, "a"), down(5, "data", 1, "b")])
        line.send("c")
        self.assertEqual(line.tick(2), [down(5, "data", 2, "c")])

    def test_owes_an_ack_once(self):
        line = opened()
        self.assertEqual(line.take(up(5, "data", 0, "x"), 1), ["x"])
        self.assertEqual(line.take(up(5, "data", 1, "y"), 1), ["y"])
        self.assertEqual(line.tick(1), [down(5, "ack", 2)])
        self.assertEqual(line.tick(2), [])

    def test_owes_an_ack_for_what_is_early_late_or_doubled(self):
        line = opened()
        self.assertEqual(line.take(up(5, "data", 2, "z"), 1), [])
        self.assertEqual(line.tick(1), [down(5, "ack", 0)])
        self.assertEqual(line.take(up(5, "data", 9, "x"), 2), [])
        self.assertEqual(line.tick(2), [down(5, "ack", 0)])
        self.assertEqual(line.take(up(5, "data", 0, "x"), 3), ["x"])
        self.assertEqual(line.take(up(5, "data", 1, "y"), 3), ["y", "z"])
        self.assertEqual(line.tick(3), [down(5, "ack", 3)])
        self.assertEqual(line.take(up(5, "data", 0, "x"), 4), [])
        self.assertEqual(line.tick(4), [down(5, "ack", 3)])

    def test_ack_before_data(self):
        line = opened()
        line.send("a")
        line.take(up(5, "data", 0, "x"), 1)
        self.assertEqual(line.tick(1), [down(5, "ack", 1), down(5, "data", 0, "a")])
        line.take(up(5, "data", 0, "x"), 3)
        self.assertEqual(line.tick(3), [down(5, "ack", 1), down(5, "data", 0, "a")])

    def test_says_again(self):
        line = opened()
        line.send("a")
        said = [now for now in range(10, 200) if line.tick(now) == [down(5, "data", 0, "a")]]
        self.assertEqual(said, [10, 12, 16, 24, 40, 56, 72])
        self.assertEqual(line.state, "failed")

    def test_fails_at_the_end_of_the_sixth_time(self):
        line = opened()
        line.send("a")
        for now in range(10, 72):
            line.tick(now)
            self.assertEqual(line.state, "open")
        self.assertEqual(line.tick(72), [down(5, "data", 0, "a")])
        self.assertEqual(line.state, "failed")

    def test_a_failed_line(self):
        line = opened()
        line.send("a")
        for now in range(100):
            line.tick(now)
        self.assertEqual(line.state, "failed")
        self.assertEqual(line.take(up(5, "ack", 1), 100), [])
        self.assertEqual(line.take(up(5, "data", 0, "x"), 100), [])
        self.assertEqual(line.take(up(5, "open", 3), 100), [])
        self.assertEqual((line.state, line.tick(100), line.epoch), ("failed", [], 5))
        with self.assertRaises(StateError) as caught:
            line.begin(5, 100)
        self.assertEqual(caught.exception.state, "epoch")
        line.begin(6, 100)
        self.assertEqual((line.state, line.boot), ("hailing", 0))
        self.assertEqual([now for now in range(100, 200) if line.tick(now)], [100, 104, 112, 128, 144, 160])

    def test_the_hails_do_not_count(self):
        line = hailing(5, 0)
        for now in range(54):
            line.tick(now)
        line.take(up(5, "here", 3), 54)
        for now in range(54, 110):
            line.tick(now)
        line.take(up(5, "open", 3), 110)
        line.send("a")
        said = [now for now in range(110, 300) if line.tick(now)]
        self.assertEqual((said, line.state), ([110, 112, 116, 124, 140, 156, 172], "failed"))

    def test_fresh_messages_instead_of_what_is_due(self):
        line = opened()
        line.send("a")
        line.tick(10)
        line.send("b")
        # The beat is due at 12, but it is not asked as long as there are fresh messages.
        self.assertEqual(line.tick(12), [down(5, "data", 1, "b")])
        self.assertEqual(line.tick(13), [down(5, "data", 0, "a"), down(5, "data", 1, "b")])

    def test_fresh_messages_leave_a_running_beat(self):
        line = opened()
        line.send("a")
        line.tick(10)
        line.send("b")
        line.tick(11)
        self.assertEqual(line.tick(12), [down(5, "data", 0, "a"), down(5, "data", 1, "b")])

    def test_acks(self):
        line = opened()
        for number in range(6):
            line.send(str(number))
        line.tick(10)
        self.assertEqual(line.take(up(5, "ack", 2), 11), [])
        self.assertEqual(line.tick(11), [down(5, "data", 4, "4"), down(5, "data", 5, "5")])
        # The beat was started at 11 by the ack.
        self.assertEqual(line.tick(12), [])
        self.assertEqual(line.tick(13), [down(5, "data", number, str(number)) for number in range(2, 6)])
        line.take(up(5, "ack", 6), 14)
        for now in range(14, 100):
            self.assertEqual(line.tick(now), [])
        self.assertEqual(line.state, "open")

    def test_an_ack_that_stops_the_beat(self):
        line = opened()
        line.send("a")
        line.tick(10)
        line.take(up(5, "ack", 1), 11)
        line.send("b")
        # Started again at 20, so due at 22.
        self.assertEqual([now for now in range(20, 27) if line.tick(now)], [20, 22, 26])

    def test_an_ack_that_hears_nothing_new(self):
        line = opened()
        line.send("a")
        line.tick(10)
        line.take(up(5, "ack", 0), 11)
        self.assertEqual([now for now in range(11, 20) if line.tick(now)], [12, 16])

    def test_acks_that_cannot_be(self):
        line = opened()
        for number in range(6):
            line.send(str(number))
        line.tick(10)
        line.take(up(5, "ack", 1), 10)
        line.tick(10)
        for number in (0, 6, 7, 1000):
            line.take(up(5, "ack", number), 11)
        self.assertEqual(line.tick(11), [])
        self.assertEqual(line.tick(12), [down(5, "data", number, str(number)) for number in range(1, 5)])

    def test_acks_begin_the_count_anew(self):
        line = opened()
        line.send("a")
        line.send("b")
        for now in range(60):
            line.tick(now)
        line.take(up(5, "ack", 1), 60)
        self.assertEqual([now for now in range(60, 200) if line.tick(now)], [62, 66, 74, 90, 106, 122])
        self.assertEqual(line.state, "failed")

    def test_segments_of_others(self):
        line = opened()
        line.send("a")
        line.tick(10)
        for segment in (up(4, "ack", 1), up(6, "ack", 1), up(5, "ack", 1, sender=3), up(4, "data", 0, "x"),
                        up(5, "data", 0, "x", sender=1), up(6, "data", 0, "x")):
            self.assertEqual(line.take(segment, 11), [])
        self.assertEqual(line.tick(11), [])
        self.assertEqual(line.tick(12), [down(5, "data", 0, "a")])

    def test_other_kinds_have_no_effect(self):
        line = opened()
        for kind in ("hail", "here", "open"):
            for number in (0, 3, 4):
                self.assertEqual(line.take(up(5, kind, number), 1), [])
        self.assertEqual((line.state, line.boot, line.tick(1)), ("open", 3, []))


class Sending(unittest.TestCase):
    def test_send_in_each_state(self):
        line = Line(2)
        with self.assertRaises(StateError) as caught:
            line.send("a")
        self.assertEqual(caught.exception.state, "none")
        line.begin(1, 0)
        line.send("b")
        line.take(up(1, "here", 3), 0)
        line.take(up(1, "open", 3), 0)
        line.send("c")
        self.assertEqual(line.tick(0), [down(1, "data", 0, "b"), down(1, "data", 1, "c")])
        for now in range(1, 100):
            line.tick(now)
        with self.assertRaises(StateError) as caught:
            line.send("d")
        self.assertEqual(caught.exception.state, "failed")

    def test_room(self):
        line = hailing()
        for number in range(300):
            line.send(str(number))
        with self.assertRaises(RoomError) as caught:
            line.send("more")
        self.assertEqual(caught.exception.place, "queue")


class Guests(unittest.TestCase):
    def test_new_guest(self):
        guest = Guest(2, 3)
        self.assertEqual((guest.epoch, guest.boot), (0, 3))
        for now in range(20):
            self.assertEqual(guest.tick(now), [])

    def test_hail_with_another_number(self):
        guest = Guest(2, 3)
        for number in (0, 2, 4):
            self.assertEqual(guest.take(down(7, "hail", number), 0), ([], [up(7, "here", 3)]))
        self.assertEqual(guest.epoch, 0)

    def test_hail_with_its_number(self):
        guest = Guest(2, 3)
        self.assertEqual(guest.take(down(7, "hail", 3), 0), ([], [up(7, "open", 3)]))
        self.assertEqual((guest.epoch, guest.boot), (7, 3))

    def test_hails_with_lesser_equal_and_greater_epochs(self):
        guest = in_session(5)
        self.assertEqual(guest.take(down(4, "hail", 3), 1), ([], []))
        self.assertEqual(guest.epoch, 5)
        self.assertEqual(guest.take(down(5, "hail", 3), 1), ([], [up(5, "open", 3)]))
        self.assertEqual(guest.epoch, 5)
        self.assertEqual(guest.take(down(8, "hail", 3), 1), ([], [up(8, "open", 3)]))
        self.assertEqual(guest.epoch, 8)

    def test_hails_with_another_number_in_a_session(self):
        guest = in_session(5)
        for epoch in (4, 5, 6):
            self.assertEqual(guest.take(down(epoch, "hail", 2), 1), ([], [up(epoch, "here", 3)]))
            self.assertEqual(guest.epoch, 5)

    def test_the_same_epoch_keeps_the_session(self):
        guest = in_session(5)
        guest.send("a")
        guest.take(down(5, "hail", 3), 1)
        self.assertEqual(guest.tick(1), [up(5, "data", 0, "a")])
        self.assertEqual(guest.take(down(5, "data", 1, "x"), 2), (["x"], []))

    def test_a_session_that_begins_anew(self):
        guest = in_session(5)
        guest.send("old")
        guest.take(down(6, "hail", 3), 1)
        self.assertEqual(guest.tick(1), [])
        guest.send("new")
        self.assertEqual(guest.take(down(5, "data", 1, "x"), 2), ([], []))
        self.assertEqual(guest.tick(2), [])
        self.assertEqual(guest.take(down(6, "data", 0, "y"), 3), (["y"], []))
        self.assertEqual(guest.tick(3), [up(6, "ack", 1), up(6, "data", 0, "new")])

    def test_nothing_before_something_was_heard(self):
        guest = Guest(2, 3)
        guest.take(down(5, "hail", 3), 0)
        guest.send("a")
        for now in range(50):
            self.assertEqual(guest.tick(now), [])
        guest.take(down(5, "hail", 3), 50)
        guest.take(down(4, "data", 0, "x"), 50)
        guest.take(down(5, "here", 3), 50)
        self.assertEqual(guest.tick(50), [])
        self.assertEqual(guest.take(down(5, "data", 0, "x"), 51), (["x"], []))
        self.assertEqual(guest.tick(51), [up(5, "ack", 1), up(5, "data", 0, "a")])
        self.assertEqual([now for now in range(52, 80) if guest.tick(now)], [53, 57, 65])

    def test_an_ack_is_something_heard(self):
        guest = Guest(2, 3)
        guest.take(down(5, "hail", 3), 0)
        guest.send("a")
        self.assertEqual(guest.take(down(5, "ack", 0), 1), ([], []))
        self.assertEqual(guest.tick(1), [up(5, "data", 0, "a")])

    def test_says_again_for_ever(self):
        guest = in_session(5)
        guest.send("a")
        said = [now for now in range(10, 120) if guest.tick(now) == [up(5, "data", 0, "a")]]
        self.assertEqual(said, [10, 12, 16, 24, 40, 56, 72, 88, 104])

    def test_acks(self):
        guest = in_session(5)
        for number in range(5):
            guest.send(str(number))
        self.assertEqual(len(guest.tick(10)), 4)
        self.assertEqual(guest.take(down(5, "ack", 5), 11), ([], []))
        self.assertEqual(guest.take(down(4, "ack", 4), 11), ([], []))
        self.assertEqual(guest.tick(11), [])
        self.assertEqual(guest.take(down(5, "ack", 4), 11), ([], []))
        self.assertEqual(guest.tick(12), [up(5, "data", 4, "4")])

    def test_data_and_acks_of_other_epochs(self):
        guest = in_session(5)
        for epoch in (0, 4, 6):
            self.assertEqual(guest.take(down(epoch, "data", 1, "x"), 1), ([], []))
            self.assertEqual(guest.take(down(epoch, "ack", 0), 1), ([], []))
        self.assertEqual(guest.tick(1), [])
        self.assertEqual(guest.epoch, 5)

    def test_data_without_a_session(self):
        guest = Guest(2, 3)
        for epoch in (0, 5):
            self.assertEqual(guest.take(down(epoch, "data", 0, "x"), 1), ([], []))
            self.assertEqual(guest.take(down(epoch, "ack", 0), 1), ([], []))
        self.assertEqual((guest.tick(1), guest.epoch), ([], 0))

    def test_other_kinds_have_no_effect(self):
        guest = in_session(5)
        for kind in ("here", "open"):
            for epoch in (4, 5, 6):
                self.assertEqual(guest.take(down(epoch, kind, 3), 1), ([], []))
        self.assertEqual((guest.tick(1), guest.epoch, guest.boot), ([], 5, 3))

    def test_send_without_a_session(self):
        guest = Guest(2, 3)
        for _ in range(400):
            guest.send("lost")
        guest.take(down(5, "hail", 3), 0)
        guest.take(down(5, "data", 0, "x"), 0)
        self.assertEqual(guest.tick(0), [up(5, "ack", 1)])

    def test_send_with_a_full_sender(self):
        guest = Guest(2, 3)
        guest.take(down(5, "hail", 3), 0)
        for number in range(300):
            guest.send(str(number))
        with self.assertRaises(RoomError) as caught:
            guest.send("more")
        self.assertEqual(caught.exception.place, "queue")

    def test_data_in_order(self):
        guest = in_session(5)
        self.assertEqual(guest.take(down(5, "data", 2, "c"), 1), ([], []))
        self.assertEqual(guest.tick(1), [up(5, "ack", 1)])
        self.assertEqual(guest.take(down(5, "data", 1, "b"), 2), (["b", "c"], []))
        self.assertEqual(guest.take(down(5, "data", 1, "b"), 2), ([], []))
        self.assertEqual(guest.tick(2), [up(5, "ack", 3)])

    def test_lists_are_not_shared(self):
        guest = in_session(5)
        guest.send("a")
        guest.tick(1).append("x")
        guest.take(down(5, "data", 1, "b"), 2)[0].append("x")
        self.assertEqual(guest.take(down(5, "data", 2, "c"), 2), (["c"], []))
        self.assertEqual(guest.tick(3), [up(5, "ack", 3), up(5, "data", 0, "a")])


class Pair:
    """A line and a guest with lanes between them that do what a seed tells."""

    def __init__(self, seed):
        self.dice = random.Random(seed)
        self.line = Line(2)
        self.guest = Guest(2, self.dice.randint(1, 3))
        self.down = Lane()
        self.up = Lane()
        self.now = 0
        self.epoch = 0
        self.given = {"line": [], "guest": []}
        self.got = {"line": [], "guest": []}

    def begin(self):
        self.epoch += 1
        self.line.begin(self.epoch, self.now)
        self.given["line"] = []
        self.got["line"] = []

    def give(self):
        if self.line.state in ("hailing", "open") and len(self.given["line"]) < 250:
            text = f"d{self.epoch} {len(self.given['line'])}"
            self.line.send(text)
            self.given["line"].append(text)
        if self.guest.epoch == self.epoch and len(self.given["guest"]) < 250:
            text = f"u{self.epoch} {len(self.given['guest'])}"
            self.guest.send(text)
            self.given["guest"].append(text)

    def tick(self):
        for lane, rows in ((self.down, self.line.tick(self.now)), (self.up, self.guest.tick(self.now))):
            for row in rows:
                lane.put(write_frame(row))
        self.now += 1

    def harm(self):
        lane = self.dice.choice([self.down, self.up])
        deed = self.dice.choice([lane.lose, lane.double, lane.hasten])
        deed(self.dice.randrange(32) % (len(lane.frames) + 1))

    def deliver_down(self):
        text = self.down.deliver()
        if text is None:
            return
        before = self.guest.epoch
        messages, answers = self.guest.take(read_frame(text), self.now)
        if self.guest.epoch != before:
            self.given["guest"] = []
            self.got["guest"] = []
        # The guest only takes what is of its own epoch, which may be older than the line's.
        if self.guest.epoch == self.epoch:
            self.got["guest"].extend(messages)
        for row in answers:
            self.up.put(write_frame(row))

    def deliver_up(self):
        text = self.up.deliver()
        if text is not None:
            self.got["line"].extend(self.line.take(read_frame(text), self.now))


class BothEnds(unittest.TestCase):
    def assert_beginnings(self, pair):
        if pair.guest.epoch == pair.epoch:
            there = pair.got["guest"]
            self.assertEqual(there, pair.given["line"][:len(there)])
            here = pair.got["line"]
            self.assertEqual(here, pair.given["guest"][:len(here)])
        else:
            self.assertEqual(pair.got["line"], [])

    def run_badly(self, pair, steps):
        for _ in range(steps):
            what = pair.dice.randrange(9)
            if what == 0:
                pair.tick()
            elif what == 1:
                pair.give()
            elif what in (2, 3):
                pair.harm()
            elif what in (4, 5, 6):
                pair.deliver_down()
            else:
                pair.deliver_up()
            if pair.line.state == "failed" or pair.dice.randrange(800) == 0:
                pair.begin()
            self.assert_beginnings(pair)

    def run_well(self, pair, rounds):
        for _ in range(rounds):
            pair.tick()
            while pair.down.frames or pair.up.frames:
                pair.deliver_down()
                pair.deliver_up()
            self.assert_beginnings(pair)

    def test_a_beginning_of_what_was_given(self):
        arrived = 0
        for seed in range(30):
            pair = Pair(seed)
            pair.begin()
            self.run_badly(pair, 3000)
            arrived += len(pair.got["guest"]) + len(pair.got["line"])
        self.assertGreater(arrived, 100)

    def test_all_of_it_at_last(self):
        for seed in range(30):
            pair = Pair(seed)
            pair.begin()
            self.run_badly(pair, 1500)
            self.run_well(pair, 400)
            if pair.line.state == "failed":
                pair.begin()
            pair.give()
            self.run_well(pair, 400)
            self.assertEqual(pair.line.state, "open")
            self.assertEqual(pair.got["guest"], pair.given["line"])
            self.assertEqual(pair.got["line"], pair.given["guest"])
            self.assertGreater(len(pair.given["line"]), 0)


if __name__ == "__main__":
    unittest.main()
