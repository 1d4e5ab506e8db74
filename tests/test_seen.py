import unittest

from hangbridge.seen import Seen

A, B, C, D = ((1, 1), (2, 1)), ((1, 2), (3, 1)), ((2, 2), (3, 2)), ((3, 3), (4, 1))


def with_links(*links):
    seen = Seen()
    for link in links:
        assert seen.see(*link, 0) == []
    return seen


class Links(unittest.TestCase):
    def test_none(self):
        seen = Seen()
        self.assertEqual((seen.links(), seen.lose((1, 1)), seen.old(1000, 0)), ([], [], []))

    def test_ascending_the_lesser_end_first(self):
        seen = Seen()
        for one, other in (D, A[::-1], C[::-1], B):
            self.assertEqual(seen.see(one, other, 1), [])
        self.assertEqual(seen.links(), [A, B, C, D])

    def test_what_is_returned_is_its_own(self):
        seen = with_links(A, B)
        seen.links().clear()
        seen.lose((1, 1)).clear()
        self.assertEqual(seen.links(), [B])
        seen.old(5, 0).clear()
        self.assertEqual(seen.links(), [])

    def test_two_ends_of_one_switch(self):
        seen = with_links(A, B)
        for end, other in (((1, 1), (1, 2)), ((1, 3), (1, 4)), ((1, 1), (1, 1)), ((2, 1), (2, 6))):
            self.assertEqual(seen.see(end, other, 1), [])
            self.assertEqual(seen.links(), [A, B])

    def test_parallel_links(self):
        self.assertEqual(with_links(A, ((1, 2), (2, 2))).links(), [A, ((1, 2), (2, 2))])


class SeenAgain(unittest.TestCase):
    def test_keeps_the_link_with_the_tick(self):
        seen = with_links(A, B)
        self.assertEqual(seen.see(*A, 5), [])
        self.assertEqual(seen.links(), [A, B])
        self.assertEqual(seen.old(6, 2), [B])
        self.assertEqual(seen.old(7, 2), [A])

    def test_from_the_other_end(self):
        seen = with_links(A)
        self.assertEqual(seen.see(A[1], A[0], 5), [])
        self.assertEqual((seen.old(6, 2), seen.links()), ([], [A]))

    def test_seen_anew_after_it_was_lost(self):
        seen = with_links(A)
        seen.lose((2, 1))
        self.assertEqual(seen.see(*A, 9), [])
        self.assertEqual((seen.old(10, 2), seen.links()), ([], [A]))


class Taken(unittest.TestCase):
    def test_one_end(self):
        seen = with_links(A, B, C, D)
        self.assertEqual(seen.see((1, 1), (4, 4), 1), [A])
        self.assertEqual(seen.links(), [((1, 1), (4, 4)), B, C, D])
        seen = with_links(A, B, C, D)
        self.assertEqual(seen.see((4, 4), (1, 1), 1), [A])
        self.assertEqual(seen.links(), [((1, 1), (4, 4)), B, C, D])

    def test_both_ends(self):
        new = ((2, 1), (3, 1))
        for end, other, lost in ((*new, [A, B]), (*new[::-1], [B, A])):
            seen = with_links(A, B, C, D)
            self.assertEqual(seen.see(end, other, 1), lost)
            self.assertEqual(seen.links(), [new, C, D])

    def test_both_ends_in_the_order_of_the_ends(self):
        # The link of `end` comes first though the other one is less.
        seen = with_links(A, D)
        self.assertEqual(seen.see((4, 1), (1, 1), 1), [D, A])
        self.assertEqual(seen.links(), [((1, 1), (4, 1))])

    def test_the_same_port_of_another_switch_and_another_port_stay(self):
        seen = with_links(A, B)
        self.assertEqual(seen.see((4, 1), (3, 2), 1), [])
        self.assertEqual(seen.links(), [A, B, ((3, 2), (4, 1))])

    def test_the_new_one_has_its_tick(self):
        seen = with_links(A)
        seen.see((1, 1), (3, 3), 4)
        self.assertEqual((seen.old(7, 4), seen.old(8, 4)), ([], [((1, 1), (3, 3))]))


class Losing(unittest.TestCase):
    def test_by_each_end(self):
        for end in A:
            seen = with_links(A, B)
            self.assertEqual((seen.lose(end), seen.links()), ([A], [B]))
            self.assertEqual((seen.lose(end), seen.links()), ([], [B]))

    def test_an_end_without_a_link(self):
        seen = with_links(A, B)
        for end in ((1, 3), (2, 2), (4, 1), (1, 0)):
            self.assertEqual((seen.lose(end), seen.links()), ([], [A, B]))


class Old(unittest.TestCase):
    def test_exact_age(self):
        for now, lost in ((19, []), (20, [A]), (21, [A]), (1000, [A])):
            seen = Seen()
            seen.see(*A, 10)
            self.assertEqual(seen.old(now, 10), lost)
            self.assertEqual(seen.links(), [] if lost else [A])

    def test_some_of_several_ascending(self):
        seen = Seen()
        for link, now in ((D, 1), (A, 3), (C, 2), (B, 1)):
            seen.see(*link, now)
        self.assertEqual((seen.old(40, 38), seen.links()), ([B, C, D], [A]))
        self.assertEqual((seen.old(40, 38), seen.old(41, 38), seen.links()), ([], [A], []))

    def test_age_0(self):
        seen = with_links(A)
        self.assertEqual((seen.old(0, 0), seen.links()), ([A], []))


if __name__ == "__main__":
    unittest.main()
