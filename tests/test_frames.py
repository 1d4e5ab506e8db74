import copy
import unittest

from hangbridge.frames import check_number, number_of, read_frame, write_frame

MOST = 2147483647

# Each frame with the words of its text.
FRAMES = [
    (("datum", 1, 2, 3, (4, 5, 6)), "datum 1 2 3 4 5 6"),
    (("datum", 0, 0, 0, (0, 0, 0)), "datum 0 0 0 0 0 0"),
    (("datum", 200, 16, MOST, (15, 15, 15)), "datum 200 16 2147483647 15 15 15"),
    (("probe", (1, 2), 7, None), "probe 1 2 7"),
    (("probe", (1, 2), 7, (2, 1)), "probe 1 2 7 2 1"),
    (("probe", (1, 1), 0, (1, 1)), "probe 1 1 0 1 1"),
    (("probe", (8, 6), MOST, (8, 6)), "probe 8 6 2147483647 8 6"),
    (("segment", 1, 0, 12, 3, "hail", 4, ""), "segment 1 0 12 3 hail 4 "),
    (("segment", 0, 0, 0, 0, "here", 0, ""), "segment 0 0 0 0 here 0 "),
    (("segment", 8, 8, 16, MOST, "open", MOST, ""), "segment 8 8 16 2147483647 open 2147483647 "),
    (("segment", 2, 0, 12, 5, "data", 0, "way 0 1"), "segment 2 0 12 5 data 0 way 0 1"),
    (("segment", 0, 2, 12, 5, "ack", 1, ""), "segment 0 2 12 5 ack 1 "),
    (("segment", 0, 2, 12, 5, "data", 1, " "), "segment 0 2 12 5 data 1  "),
    (("segment", 0, 2, 12, 5, "data", 1, "  a  b  "), "segment 0 2 12 5 data 1   a  b  "),
    (("segment", 0, 2, 12, 5, "data", 1, "!)+~"), "segment 0 2 12 5 data 1 !)+~"),
    (("segment", 0, 2, 12, 5, "data", 1, "~" * 200), "segment 0 2 12 5 data 1 " + "~" * 200),
]

# The words of texts that are malformed although their check number is right.
MALFORMED = [
    "", " ", "x", "datum", "probe", "segment", "Datum 1 2 3 4 5 6", "data 1 2 3 4 5 6",
    # One beyond the greatest or below the least number of each place.
    "datum 201 2 3 4 5 6", "datum 1 17 3 4 5 6", "datum 1 2 2147483648 4 5 6",
    "datum 1 2 3 16 5 6", "datum 1 2 3 4 16 6", "datum 1 2 3 4 5 16",
    "datum -1 2 3 4 5 6", "datum 1 -1 3 4 5 6", "datum 1 2 -1 4 5 6", "datum 1 2 3 -1 5 6",
    "probe 0 1 7", "probe 9 1 7", "probe 1 0 7", "probe 1 7 7", "probe 1 2 2147483648",
    "probe 1 2 -1", "probe 1 2 7 0 1", "probe 1 2 7 9 1", "probe 1 2 7 2 0", "probe 1 2 7 2 7",
    "segment 9 0 12 3 hail 4 ", "segment 1 9 12 3 hail 4 ", "segment 1 0 17 3 hail 4 ",
    "segment 1 0 12 2147483648 hail 4 ", "segment 1 0 12 3 hail 2147483648 ",
    "segment -1 0 12 3 hail 4 ", "segment 1 0 12 3 hail -4 ",
    # Leading zeros, signs, and other digits.
    "datum 01 2 3 4 5 6", "datum 1 2 00 4 5 6", "datum +1 2 3 4 5 6", "datum 1 2 3 4 5 06",
    "datum 1 2 3 4 5 \u0666", "datum 1 2 3 4 5 \u00b2", "datum 1_0 2 3 4 5 6", "datum 1.0 2 3 4 5 6",
    "probe 01 2 7", "probe 1 2 07", "probe 1 2 7 2 01", "probe 1 2 +7", "probe 1 2 0x7",
    "segment 01 0 12 3 hail 4 ", "segment 1 0 12 03 hail 4 ", "segment 1 0 12 3 hail 04 ",
    "segment 1 0 12 3 hail +4 ",
    # Doubled, missing, leading and trailing spaces.
    "datum  1 2 3 4 5 6", "datum 1 2  3 4 5 6", "datum 1 2 3 4 5 6 ", " datum 1 2 3 4 5 6",
    "datum 1 2 3 4 56", "datum1 2 3 4 5 6", "datum\t1 2 3 4 5 6", "datum 1 2 3 4 5 6\n",
    "probe  1 2 7", "probe 1 2 7 ", "probe 1 2 7  2 1", "probe 1 2 7 2 1 ", "probe 12 7",
    "segment  1 0 12 3 hail 4 ", "segment 1 0 12 3  hail 4 ", "segment 1 0 12 3 hail  4 ",
    " segment 1 0 12 3 hail 4 ", "segment 1 0 12 3 hail 4", "segment 1 0 12 3 hail4 ",
    # Words too many or too few.
    "datum 1 2 3 4 5", "datum 1 2 3 4 5 6 7", "probe 1 2", "probe 1 2 7 2", "probe 1 2 7 2 1 1",
    "segment 1 0 12 3 hail", "segment 1 0 12 hail 4 ", "segment 1 0 12 3 4 ",
    # Words that are none.
    "datum a 2 3 4 5 6", "datum 1 2 3 4 5 -", "datum None 2 3 4 5 6", "probe 1 2 x", "probe 1 2 7 None",
    "segment 1 0 12 3 hello 4 ", "segment 1 0 12 3 Hail 4 ", "segment 1 0 12 3 5 4 ",
    "segment 1 0 12 3 hail x ", "segment x 0 12 3 hail 4 ",
    # Texts of segments.
    "segment 0 2 12 5 data 1 " + "a" * 201, "segment 0 2 12 5 data 1 " + " " * 201,
    "segment 0 2 12 5 data 1 a\n", "segment 0 2 12 5 data 1 a\tb", "segment 0 2 12 5 data 1 \x1f",
    "segment 0 2 12 5 data 1 \x7f", "segment 0 2 12 5 data 1 \u00e9",
    "segment 0 2 12 5 data 1 a*b", "segment 0 2 12 5 data 1 *", "datum 1 2 3 4 5 6*",
]


def checked(words):
    return f"{words}*{check_number(words)}"


class CheckNumber(unittest.TestCase):
    def test_by_hand(self):
        self.assertEqual(check_number(""), 7)
        # 7 * 257 + 97 + 1
        self.assertEqual(check_number("a"), 1897)
        # 1897 * 257 + 98 + 1
        self.assertEqual(check_number("ab"), 487628)

    def test_modulo(self):
        # 487628 * 257 + 100 = 125320496; 125320496 * 257 + 101 = 32207367573, less 7 * 4294967291
        self.assertEqual(check_number("abcd"), 32207367573 - 7 * 4294967291)

    def test_within_the_modulus(self):
        for length in range(300):
            self.assertTrue(0 <= check_number("~" * length) < 4294967291)

    def test_codes_beyond_ascii(self):
        self.assertEqual(check_number("\u20ac"), 7 * 257 + 0x20ac + 1)


class NumberOf(unittest.TestCase):
    def test_numbers(self):
        for word, most, number in [("0", 0, 0), ("1", 1, 1), ("10", 10, 10), ("199", 200, 199), ("200", 200, 200),
                                   (str(MOST), MOST, MOST)]:
            self.assertEqual(number_of(word, most), number)

    def test_beyond(self):
        for word, most in [("1", 0), ("11", 10), ("100", 10), (str(MOST + 1), MOST), ("9" * 5000, MOST)]:
            self.assertIsNone(number_of(word, most))

    def test_no_numbers(self):
        for word in ["", " ", "-", "-0", "-1", "+1", "00", "01", " 1", "1 ", "1\n", "1_0", "1.0", "x", "0x1",
                     "\u0661", "\u00b2", "\uff11"]:
            self.assertIsNone(number_of(word, MOST))


class Frames(unittest.TestCase):
    def test_write(self):
        for frame, words in FRAMES:
            self.assertEqual(write_frame(frame), checked(words))

    def test_read(self):
        for frame, words in FRAMES:
            self.assertEqual(read_frame(checked(words)), frame)

    def test_example(self):
        self.assertEqual(read_frame(write_frame(("probe", (1, 2), 7, (2, 1)))), ("probe", (1, 2), 7, (2, 1)))
        self.assertIsNone(read_frame("datum 1 2 3 4 5 6*0"))

    def test_text_by_hand(self):
        number = 7
        for sign in "probe 1 2 7":
            number = (number * 257 + ord(sign) + 1) % 4294967291
        self.assertEqual(write_frame(("probe", (1, 2), 7, None)), "probe 1 2 7*" + str(number))

    def test_malformed(self):
        for words in MALFORMED:
            with self.subTest(words=words):
                self.assertIsNone(read_frame(checked(words)))

    def test_wrong_check_numbers(self):
        for _, words in FRAMES:
            number = check_number(words)
            for mark in ["", str(number + 1), "0" + str(number), "+" + str(number), " " + str(number),
                         str(number) + " ", str(number) + "\n", str(number) + "*", f"{number}*{number}",
                         "*" + str(number), str(number + 4294967291), "-1", "x"]:
                self.assertIsNone(read_frame(words + "*" + mark))
            self.assertIsNone(read_frame(words))
            self.assertIsNone(read_frame(words + str(number)))

    def test_check_number_of_the_text_with_its_mark(self):
        for _, words in FRAMES:
            self.assertIsNone(read_frame(checked(checked(words))))

    def test_every_changed_sign_is_found(self):
        text = checked("segment 2 0 12 5 data 0 way 0 1")
        for at in range(len(text)):
            for sign in "07a *":
                if sign != text[at]:
                    self.assertIsNone(read_frame(text[:at] + sign + text[at + 1:]))
            self.assertIsNone(read_frame(text[:at] + text[at + 1:]))

    def test_changed_and_made_right_again(self):
        self.assertEqual(read_frame(checked("datum 1 3 3 4 5 6")), ("datum", 1, 3, 3, (4, 5, 6)))
        self.assertEqual(read_frame(checked("probe 1 3 7")), ("probe", (1, 3), 7, None))

    def test_empty(self):
        for text in ["", "*", "*7", "7", "**", "*0"]:
            self.assertIsNone(read_frame(text))

    def test_kinds_of_values(self):
        frame = read_frame(checked("datum 1 2 3 4 5 6"))
        self.assertIs(frame.__class__, tuple)
        self.assertIs(frame[4].__class__, tuple)
        frame = read_frame(checked("probe 1 2 7 2 1"))
        self.assertIs(frame[1].__class__, tuple)
        self.assertIs(frame[3].__class__, tuple)

    def test_arguments_stay(self):
        for frame, words in FRAMES:
            kept = copy.deepcopy(frame)
            write_frame(frame)
            self.assertEqual(frame, kept)


if __name__ == "__main__":
    unittest.main()
