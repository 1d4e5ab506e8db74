import copy
import unittest

from hangbridge.orders import read_order, write_order

MOST = 2147483647
SAME = (None, None, None)
ANY = (None, None, None, None)

ORDERS = [
    (("wipe",), "wipe"),
    (("strip",), "strip"),
    (("keep", 0, 0), "keep 0 0"),
    (("keep", 200, 64), "keep 200 64"),
    (("tag", 0, 0), "tag 0 0"),
    (("tag", 200, 64), "tag 200 64"),
    (("add", 3, (None, 1, None, 0), [(2, SAME), (4, (7, None, 1))]), "add 3 -,1,-,0 2:-,-,-;4:7,-,1"),
    (("add", 1, ANY, []), "add 1 -,-,-,- -"),
    (("add", 200, (6, 15, 15, 15), [(6, (15, 15, 15))]), "add 200 6,15,15,15 6:15,15,15"),
    (("add", 1, (0, 0, 0, 0), [(0, (0, 0, 0))]), "add 1 0,0,0,0 0:0,0,0"),
    (("add", 1, (None, 1, 2, 3), [(0, (None, 1, 2))]), "add 1 -,1,2,3 0:-,1,2"),
    (("add", 1, (1, None, 2, 3), [(0, (1, None, 2))]), "add 1 1,-,2,3 0:1,-,2"),
    (("add", 1, (1, 2, None, 3), [(0, (1, 2, None))]), "add 1 1,2,-,3 0:1,2,-"),
    (("add", 1, (1, 2, 3, None), [(1, SAME), (1, SAME)]), "add 1 1,2,3,- 1:-,-,-;1:-,-,-"),
    (("add", 1, ANY, [(6, (15, 15, 15))] * 8), "add 1 -,-,-,- " + ";".join(["6:15,15,15"] * 8)),
    (("drop", 0), "drop 0"),
    (("drop", 200), "drop 200"),
    (("way", 0, 0), "way 0 0"),
    (("way", 8, 6), "way 8 6"),
    (("unway", 0), "unway 0"),
    (("unway", 8), "unway 8"),
    (("probe", 0, 0), "probe 0 0"),
    (("probe", 6, MOST), "probe 6 2147483647"),
    (("barrier", 0), "barrier 0"),
    (("barrier", MOST), "barrier 2147483647"),
    (("done", 0, 0), "done 0 0"),
    (("done", MOST, MOST), "done 2147483647 2147483647"),
    (("link", 0, (0, 0), 0), "link 0 0 0 0"),
    (("link", 1, (2, 3), 4), "link 1 2 3 4"),
    (("link", 6, (8, 6), MOST), "link 6 8 6 2147483647"),
    (("port", 0, 0), "port 0 0"),
    (("port", 6, 1), "port 6 1"),
]

NO_ORDERS = [
    "", " ", "-", "x", "Wipe", "WIPE", "wipe ", " wipe", "wipe 0", "wipe  ", "strip ", "strip 1", "wipestrip", "wipe\n",
    # One beyond each range.
    "keep 201 0", "keep 0 65", "tag 201 0", "tag 0 65", "drop 201", "way 9 0", "way 0 7", "unway 9", "probe 7 0",
    "probe 0 2147483648", "barrier 2147483648", "done 2147483648 0", "done 0 2147483648", "link 7 0 0 0",
    "link 0 9 0 0", "link 0 0 7 0", "link 0 0 0 2147483648", "port 7 0", "port 0 2", "add 201 -,-,-,- -",
    "add 0 -,-,-,- -", "add 1 7,-,-,- -", "add 1 -,16,-,- -", "add 1 -,-,16,- -", "add 1 -,-,-,16 -",
    "add 1 -,-,-,- 7:-,-,-", "add 1 -,-,-,- 0:16,-,-", "add 1 -,-,-,- 0:-,16,-", "add 1 -,-,-,- 0:-,-,16",
    "add 1 -,-,-,- " + ";".join(["1:-,-,-"] * 9),
    # Leading zeros, signs, and other digits.
    "keep 00 0", "keep 0 01", "tag +1 0", "tag -1 0", "drop 01", "drop -1", "way 01 1", "way 1 -1", "way - 1",
    "unway 1.0", "probe 1 \u0661", "barrier -0", "barrier 1_0", "done 1 -1", "link 1 2 03 4", "link 1 -2 3 4",
    "port 1 01", "port 1 -1", "add 01 -,-,-,- -", "add -1 -,-,-,- -", "add 1 00,-,-,- -", "add 1 -,-1,-,- -",
    "add 1 -,-,-,- 01:-,-,-", "add 1 -,-,-,- -:-,-,-", "add 1 -,-,-,- 1:-,01,-", "add 1 -,-,-,- 1:-,+1,-",
    # Doubled, missing and trailing spaces.
    "keep  1 2", "keep 1  2", "keep 1 2 ", " keep 1 2", "keep 12", "keep\t1 2", "keep 1 2\n", "drop 1 ", "drop  1",
    "barrier1", "link 1  2 3 4", "add 1  -,-,-,- -", "add 1 -,-,-,-  -", "add 1 -,-,-,- - ", "add 1 -,-,-,--",
    "add 1 -, -,-,- -", "add 1 -,-,-,- 1:-,-,-; 2:-,-,-", "add 1 -,-,-,- 1: -,-,-",
    # Words too many or too few.
    "keep", "keep 1", "keep 1 2 3", "tag 1", "tag 1 2 3", "drop", "drop 1 2", "way 1", "way 1 2 3", "unway",
    "unway 1 2", "probe 1", "probe 1 2 3", "barrier", "barrier 1 2", "done 1", "done 1 2 3", "link 1 2 3",
    "link 1 2 3 4 5", "link 1 2,3 4", "port 1", "port 1 1 1", "add", "add 1", "add 1 -,-,-,-", "add 1 -,-,-,- - -",
    # Words that are none.
    "hail 1 2", "keep x 1", "drop None", "barrier x", "port 1 up", "add x -,-,-,- -", "add 1 x,-,-,- -",
    "add 1 -,-,-,- x", "add 1 -,-,-,- x:-,-,-", "add 1 -,-,-,- 1:x,-,-", "add - -,-,-,- -", "link - 2 3 4",
    # Commas, colons and semicolons elsewhere.
    "add 1 -,-,- -", "add 1 -,-,-,-,- -", "add 1 ,,, -", "add 1 -,-,-, -", "add 1 ,-,-,- -", "add 1 -;-;-;- -",
    "add 1 - -", "add 1 -:-,-,- -", "add 1 -,-,-,- 1:-,-", "add 1 -,-,-,- 1:-,-,-,-", "add 1 -,-,-,- 1,-,-,-",
    "add 1 -,-,-,- 1:", "add 1 -,-,-,- 1", "add 1 -,-,-,- :-,-,-", "add 1 -,-,-,- 1::-,-,-", "add 1 -,-,-,- 1:-:-:-",
    "add 1 -,-,-,- 1:-,-,-;", "add 1 -,-,-,- ;1:-,-,-", "add 1 -,-,-,- 1:-,-,-;;2:-,-,-", "add 1 -,-,-,- ;",
    "add 1 -,-,-,- -;-", "add 1 -,-,-,- 1:-,-,-;-", "add 1 -,-,-,- 1:-,-,-,2:-,-,-", "add 1 -,-,-,- 1:-;-;-",
    "add 1 -,-,-,- 1:,,", "add 1 -,-,-,- ", "keep 1,2", "way 1:2", "link 1 2:3 4", "wipe;strip", "drop 1;",
]


class Orders(unittest.TestCase):
    def test_write(self):
        for order, text in ORDERS:
            self.assertEqual(write_order(order), text)

    def test_read(self):
        for order, text in ORDERS:
            self.assertEqual(read_order(text), order)

    def test_example(self):
        order = ("add", 3, (None, 1, None, 0), [(2, (None, None, None)), (4, (7, None, 1))])
        self.assertEqual(write_order(order), "add 3 -,1,-,0 2:-,-,-;4:7,-,1")

    def test_no_orders(self):
        for text in NO_ORDERS:
            with self.subTest(text=text):
                self.assertIsNone(read_order(text))

    def test_orders_fit_into_segments(self):
        for _, text in ORDERS:
            self.assertLessEqual(len(text), 200)
            self.assertNotIn("*", text)

    def test_kinds_of_values(self):
        order = read_order("add 3 -,1,-,0 2:-,-,-")
        self.assertIs(order.__class__, tuple)
        self.assertIs(order[2].__class__, tuple)
        self.assertIs(order[3].__class__, list)
        self.assertIs(order[3][0].__class__, tuple)
        self.assertIs(order[3][0][1].__class__, tuple)
        self.assertIs(read_order("link 1 2 3 4")[2].__class__, tuple)

    def test_arguments_stay(self):
        for order, _ in ORDERS:
            kept = copy.deepcopy(order)
            write_order(order)
            self.assertEqual(order, kept)

    def test_lists_are_not_shared(self):
        for text in ["add 1 -,-,-,- -", "add 1 -,-,-,- 1:-,-,-"]:
            read_order(text)[3].append("x")
            self.assertNotIn("x", read_order(text)[3])


if __name__ == "__main__":
    unittest.main()
