import itertools
import unittest

from hangbridge.errors import RoomError
from hangbridge.senders import Beat, Inbox, Sender


def filled(count):
    sender = Sender()
    for number in range(count):
        sender.put(f"m{number}")
    return sender


def numbered(*numbers):
    return [(number, f"m{number}") for number in numbers]


class Senders(unittest.TestCase):
    def test_new_sender(self):
        sender = Sender()
        self.assertEqual((sender.first, sender.rows, sender.said), (0, [], 0))
        self.assertEqual(sender.fresh(), [])
        self.assertEqual(sender.again(), [])

    def test_put(self):
        sender = filled(3)
        self.assertEqual((sender.first, sender.rows, sender.said), (0, ["m0", "m1", "m2"], 0))

    def test_room(self):
        sender = filled(299)
        sender.put("m299")
        for _ in range(2):
            with self.assertRaises(RoomError) as caught:
                sender.put("more")
            self.assertEqual(caught.exception.place, "queue")
        self.assertEqual(sender.rows, [f"m{number}" for number in range(300)])

    def test_room_again(self):
        sender = filled(300)
        sender.fresh()
        sender.heard(1)
        sender.put("m300")
        self.assertEqual((len(sender.rows), sender.rows[-1]), (300, "m300"))
        with self.assertRaises(RoomError):
            sender.put("m301")

    def test_fresh_with_fewer_than_the_window(self):
        sender = filled(2)
        self.assertEqual(sender.fresh(), numbered(0, 1))
        self.assertEqual(sender.said, 2)
        self.assertEqual(sender.fresh(), [])
        self.assertEqual(sender.said, 2)

    def test_fresh_with_the_window_and_more(self):
        for count in (4, 5, 300):
            sender = filled(count)
            self.assertEqual(sender.fresh(), numbered(0, 1, 2, 3))
            self.assertEqual(sender.said, 4)
            self.assertEqual(sender.fresh(), [])

    def test_fresh_after_some_were_said(self):
        sender = filled(1)
        sender.fresh()
        for number in range(1, 6):
            sender.put(f"m{number}")
        self.assertEqual(sender.fresh(), numbered(1, 2, 3))
        self.assertEqual(sender.fresh(), [])

    def test_fresh_after_some_were_heard(self):
        sender = filled(10)
        sender.fresh()
        sender.heard(3)
        self.assertEqual(sender.fresh(), numbered(4, 5, 6))
        sender.heard(7)
        self.assertEqual(sender.fresh(), numbered(7, 8, 9))

    def test_again(self):
        sender = filled(6)
        self.assertEqual(sender.again(), [])
        sender.fresh()
        self.assertEqual(sender.again(), numbered(0, 1, 2, 3))
        self.assertEqual(sender.again(), numbered(0, 1, 2, 3))
        sender.heard(2)
        self.assertEqual(sender.again(), numbered(2, 3))
        sender.fresh()
        self.assertEqual(sender.again(), numbered(2, 3, 4, 5))

    def test_heard(self):
        for ack, many in [(0, 0), (1, 1), (3, 3), (4, 4)]:
            sender = filled(6)
            sender.fresh()
            self.assertEqual(sender.heard(ack), many)
            self.assertEqual((sender.first, sender.said), (ack, 4 - many))
            self.assertEqual(sender.rows, [f"m{number}" for number in range(ack, 6)])

    def test_cannot_be_heard(self):
        sender = filled(6)
        self.assertIsNone(sender.heard(1))
        self.assertEqual(sender.heard(0), 0)
        sender.fresh()
        sender.heard(2)
        for ack in (5, 6, 7, 1000, 1, 0, -1):
            self.assertIsNone(sender.heard(ack))
        self.assertEqual((sender.first, sender.said), (2, 2))
        self.assertEqual(sender.rows, ["m2", "m3", "m4", "m5"])
        self.assertEqual(sender.heard(2), 0)

    def test_heard_when_empty(self):
        self.assertEqual(Sender().heard(0), 0)
        self.assertIsNone(Sender().heard(1))

    def test_numbers_go_on(self):
        sender = filled(1)
        sender.fresh()
        self.assertEqual(sender.heard(1), 1)
        sender.put("m1")
        self.assertEqual(sender.fresh(), numbered(1))

    def test_lists_are_not_shared(self):
        sender = filled(2)
        sender.fresh().append("x")
        sender.again().append("x")
        self.assertEqual(sender.rows, ["m0", "m1"])
        self.assertEqual(sender.again(), numbered(0, 1))


class Inboxes(unittest.TestCase):
    def test_in_order(self):
        inbox = Inbox()
        self.assertEqual(inbox.next, 0)
        for number in range(6):
            self.assertEqual(inbox.take(number, f"m{number}"), [f"m{number}"])
            self.assertEqual(inbox.next, number + 1)

    def test_late_and_doubled(self):
        inbox = Inbox()
        inbox.take(0, "m0")
        inbox.take(1, "m1")
        for number in (0, 1, -1):
            self.assertEqual(inbox.take(number, "x"), [])
        self.assertEqual(inbox.next, 2)

    def test_early(self):
        inbox = Inbox()
        self.assertEqual(inbox.take(1, "m1"), [])
        self.assertEqual(inbox.next, 0)
        self.assertEqual(inbox.take(0, "m0"), ["m0", "m1"])
        self.assertEqual(inbox.next, 2)

    def test_early_and_doubled(self):
        inbox = Inbox()
        inbox.take(1, "m1")
        self.assertEqual(inbox.take(1, "other"), [])
        self.assertEqual(inbox.take(0, "m0"), ["m0", "m1"])
        self.assertEqual(inbox.take(1, "m1"), [])

    def test_three_behind_is_kept(self):
        inbox = Inbox()
        self.assertEqual(inbox.take(3, "m3"), [])
        for number in (0, 1):
            inbox.take(number, f"m{number}")
        self.assertEqual(inbox.take(2, "m2"), ["m2", "m3"])
        self.assertEqual(inbox.next, 4)

    def test_four_behind_is_not_kept(self):
        inbox = Inbox()
        for number in (4, 5, 100):
            self.assertEqual(inbox.take(number, "x"), [])
        for number in range(4):
            self.assertEqual(inbox.take(number, f"m{number}"), [f"m{number}"])
        self.assertEqual(inbox.next, 4)
        self.assertEqual(inbox.take(4, "m4"), ["m4"])

    def test_the_window_moves(self):
        inbox = Inbox()
        inbox.take(0, "m0")
        inbox.take(4, "m4")
        inbox.take(5, "x")
        for number in (1, 2):
            inbox.take(number, f"m{number}")
        self.assertEqual(inbox.take(3, "m3"), ["m3", "m4"])
        self.assertEqual(inbox.next, 5)

    def test_gaps_in_every_order(self):
        for order in itertools.permutations(range(4)):
            inbox = Inbox()
            got = []
            for at, number in enumerate(order):
                got.extend(inbox.take(number, number))
                seen = set(order[:at + 1])
                self.assertEqual(inbox.next, min(set(range(5)) - seen))
                self.assertEqual(got, list(range(inbox.next)))
            self.assertEqual(got, [0, 1, 2, 3])

    def test_lists_are_not_shared(self):
        inbox = Inbox()
        inbox.take(0, "m0").append("x")
        self.assertEqual(inbox.take(1, "m1"), ["m1"])


class Beats(unittest.TestCase):
    def test_new_beat_is_stopped(self):
        beat = Beat()
        self.assertIs(beat.runs(), False)
        self.assertEqual(beat.tries, 0)
        for now in (0, 2, 1000):
            self.assertIs(beat.due(now), False)
        self.assertEqual(beat.tries, 0)

    def test_started(self):
        beat = Beat()
        beat.start(10)
        self.assertIs(beat.runs(), True)
        self.assertEqual([beat.due(9), beat.due(10), beat.due(11)], [False, False, False])
        self.assertEqual(beat.tries, 0)
        self.assertIs(beat.due(12), True)
        self.assertEqual(beat.tries, 1)
        self.assertIs(beat.due(12), False)
        self.assertIs(beat.runs(), True)

    def test_waits(self):
        beat = Beat()
        beat.start(0)
        self.assertEqual([now for now in range(80) if beat.due(now)], [2, 6, 14, 30, 46, 62, 78])
        self.assertEqual(beat.tries, 7)

    def test_asked_late(self):
        beat = Beat()
        beat.start(0)
        self.assertIs(beat.due(5), True)
        self.assertEqual([now for now in range(5, 50) if beat.due(now)], [9, 17, 33, 49])
        self.assertIs(beat.due(100), True)
        self.assertEqual([beat.due(115), beat.due(116)], [False, True])

    def test_stopped(self):
        beat = Beat()
        beat.start(0)
        beat.due(2)
        beat.stop()
        self.assertIs(beat.runs(), False)
        self.assertIs(beat.due(1000), False)
        self.assertEqual(beat.tries, 1)

    def test_stopped_and_started_again(self):
        beat = Beat()
        beat.start(0)
        for now in (2, 6, 14):
            beat.due(now)
        beat.stop()
        beat.start(20)
        self.assertEqual(beat.tries, 0)
        self.assertEqual([now for now in range(20, 60) if beat.due(now)], [22, 26, 34, 50])
        self.assertEqual(beat.tries, 4)

    def test_started_while_it_runs(self):
        beat = Beat()
        beat.start(0)
        beat.due(2)
        beat.start(3)
        self.assertEqual((beat.tries, beat.due(4), beat.due(5), beat.tries), (0, False, True, 1))

    def test_hurried(self):
        beat = Beat()
        beat.start(0)
        beat.hurry(0)
        self.assertEqual([now for now in range(30) if beat.due(now)], [0, 4, 12, 28])
        self.assertEqual(beat.tries, 4)

    def test_hurried_to_a_later_tick(self):
        beat = Beat()
        beat.start(0)
        beat.hurry(7)
        self.assertEqual([beat.due(6), beat.due(7)], [False, True])

    def test_hurried_when_stopped(self):
        beat = Beat()
        beat.hurry(5)
        self.assertIs(beat.runs(), True)
        self.assertEqual([now for now in range(20) if beat.due(now)], [5, 9, 17])

    def test_hurry_keeps_the_count(self):
        beat = Beat()
        beat.start(0)
        beat.due(2)
        beat.hurry(3)
        self.assertEqual((beat.tries, beat.due(3), beat.tries), (1, True, 2))


if __name__ == "__main__":
    unittest.main()
