import unittest

from hangbridge.lanes import Lane


def filled(count):
    lane = Lane()
    for number in range(count):
        lane.put(str(number))
    return lane


def names(*numbers):
    return [str(number) for number in numbers]


class Lanes(unittest.TestCase):
    def test_new_lane_is_empty(self):
        self.assertEqual(Lane().frames, [])

    def test_put(self):
        lane = Lane()
        self.assertIsNone(lane.put("a"))
        lane.put("b")
        lane.put("a")
        self.assertEqual(lane.frames, ["a", "b", "a"])

    def test_put_when_full(self):
        self.assertEqual(filled(31).frames, names(*range(31)))
        self.assertEqual(filled(32).frames, names(*range(32)))
        self.assertEqual(filled(33).frames, names(*range(32)))
        self.assertEqual(filled(40).frames, names(*range(32)))

    def test_room_again(self):
        lane = filled(32)
        lane.deliver()
        lane.put("x")
        lane.put("y")
        self.assertEqual(lane.frames, names(*range(1, 32)) + ["x"])

    def test_deliver(self):
        lane = filled(2)
        self.assertEqual([lane.deliver(), lane.deliver(), lane.deliver()], ["0", "1", None])
        self.assertEqual(lane.frames, [])
        self.assertIsNone(Lane().deliver())

    def test_deliver_an_empty_text(self):
        lane = Lane()
        lane.put("")
        self.assertEqual(lane.deliver(), "")

    def test_lose(self):
        for at, left in [(0, names(1, 2)), (1, names(0, 2)), (2, names(0, 1))]:
            lane = filled(3)
            self.assertIs(lane.lose(at), True)
            self.assertEqual(lane.frames, left)

    def test_double(self):
        for at in range(3):
            lane = filled(3)
            self.assertIs(lane.double(at), True)
            self.assertEqual(lane.frames, names(0, 1, 2, at))

    def test_double_when_full(self):
        lane = filled(31)
        self.assertIs(lane.double(0), True)
        self.assertEqual(lane.frames, names(*range(31), 0))
        self.assertIs(lane.double(31), True)
        self.assertIs(lane.double(5), True)
        self.assertEqual(lane.frames, names(*range(31), 0))

    def test_hasten(self):
        for at, frames in [(0, names(0, 1, 2)), (1, names(1, 0, 2)), (2, names(2, 0, 1))]:
            lane = filled(3)
            self.assertIs(lane.hasten(at), True)
            self.assertEqual(lane.frames, frames)

    def test_hasten_when_full(self):
        lane = filled(32)
        self.assertIs(lane.hasten(31), True)
        self.assertEqual(lane.frames, names(31, *range(31)))

    def test_missing_places(self):
        for count, at in [(0, 0), (3, 3), (3, 31), (3, -1), (32, 32)]:
            lane = filled(count)
            self.assertIs(lane.lose(at), False)
            self.assertIs(lane.double(at), False)
            self.assertIs(lane.hasten(at), False)
            self.assertEqual(lane.frames, names(*range(count)))

    def test_clear(self):
        for count in (0, 3, 32):
            lane = filled(count)
            self.assertIsNone(lane.clear())
            self.assertEqual(lane.frames, [])
            lane.put("a")
            self.assertEqual(lane.frames, ["a"])

    def test_lanes_share_nothing(self):
        one, other = Lane(), Lane()
        one.put("a")
        self.assertEqual(other.frames, [])


if __name__ == "__main__":
    unittest.main()
