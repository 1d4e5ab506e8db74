"""The texts of tests and policies (points 69 and 70)."""

import copy
import random
import unittest

from hangbridge.errors import MisreadError
from hangbridge.policies import check
from hangbridge.policytexts import read_policy, show_policy, show_test
from tests.policy_samples import Drawing

IS = ("is", "dst", 5)
SET = ("set", "port", 1)
FIELDS = ("switch", "port", "src", "dst", "kind")
SIGNS = "switchportsrcdstkind=:!&|()[]*+;, 0123456789"

TESTS = [
    (IS, "dst = 5"), (("is", "switch", 0), "switch = 0"), (("is", "kind", 99), "kind = 99"),
    (("not", IS), "!dst = 5"), (("not", ("not", IS)), "!!dst = 5"),
    (("all", []), "&()"), (("any", []), "|()"), (("all", [IS]), "&(dst = 5)"), (("any", [IS]), "|(dst = 5)"),
    (("all", [IS, ("is", "src", 10), ("not", IS)]), "&(dst = 5, src = 10, !dst = 5)"),
    (("any", [("all", [IS, IS]), ("any", []), ("not", ("all", []))]), "|(&(dst = 5, dst = 5), |(), !&())"),
]
POLICIES = [
    (SET, "port := 1"), (("set", "switch", 10), "switch := 10"), (("set", "src", 0), "src := 0"),
    (("star", SET), "*port := 1"), (("star", ("star", ("test", IS))), "**[dst = 5]"),
    (("sum", []), "+()"), (("seq", []), ";()"), (("sum", [SET]), "+(port := 1)"), (("seq", [SET]), ";(port := 1)"),
    (("sum", [SET, ("test", IS), ("star", SET)]), "+(port := 1, [dst = 5], *port := 1)"),
    (("seq", [("sum", [SET, SET]), ("seq", []), ("star", ("sum", []))]), ";(+(port := 1, port := 1), ;(), *+())"),
    (("star", ("seq", [("test", ("not", ("is", "src", 4))), ("set", "port", 0)])), "*;([!src = 4], port := 0)"),
]


class Shown(unittest.TestCase):
    def test_tests(self):
        for test, text in TESTS:
            before = copy.deepcopy(test)
            self.assertEqual(show_test(test), text)
            self.assertEqual(show_policy(("test", test)), "[" + text + "]")
            self.assertEqual(test, before)

    def test_policies(self):
        for policy, text in POLICIES:
            before = copy.deepcopy(policy)
            self.assertEqual(show_policy(policy), text)
            self.assertEqual(policy, before)

    def test_each_field_and_number(self):
        for field in FIELDS:
            for number in range(100):
                self.assertEqual(show_test(("is", field, number)), f"{field} = {number}")
                self.assertEqual(show_policy(("set", field, number)), f"{field} := {number}")


class Read(unittest.TestCase):
    def test_policies(self):
        for policy, text in POLICIES:
            self.assertEqual(read_policy(text), policy)

    def test_tests(self):
        for test, text in TESTS:
            self.assertEqual(read_policy("[" + text + "]"), ("test", test))

    def test_of_the_document(self):
        self.assertEqual(read_policy("+(port := 1, [&()])"), ("sum", [("set", "port", 1), ("test", ("all", []))]))

    def test_numbers_that_fields_cannot_have(self):
        for field in FIELDS:
            for number in (0, 7, 9, 16, 99):
                self.assertEqual(read_policy(f"{field} := {number}"), ("set", field, number))
                self.assertEqual(read_policy(f"[{field} = {number}]"), ("test", ("is", field, number)))

    def test_drawn(self):
        chance = random.Random(1)
        numbers = {"switch": [1, 8], "port": [0, 6], "src": [0, 15], "dst": [9, 10], "kind": [3]}
        drawing = Drawing(chance, numbers, FIELDS[1:])
        for _ in range(300):
            policy = drawing.policy(4)
            check(policy)
            self.assertEqual(read_policy(show_policy(policy)), policy)


class Wrong(unittest.TestCase):
    def assertMisread(self, text, at):
        with self.assertRaises(MisreadError) as caught:
            read_policy(text)
        self.assertEqual(caught.exception.at, at, text)

    def marked(self, text):
        """Check that a text with one `^`, which is taken out, is misread there."""
        self.assertMisread(text.replace("^", ""), text.index("^"))

    def test_at_the_beginning(self):
        for text in ("^", "^x", "^ port := 1", "^)", "^(", "^]", "^!port = 1", "^&()", "^|()", "^= 1", "^:= 1", "^1", "^, ",
                     "^ = 1", "^ := 1", "[^ = 1]", "*^ := 1", "+(^ := 1)", "[!^ = 1]"):
            self.marked(text)

    def test_fields(self):
        for text in ("^Port := 1", "^por := 1", "^p", "^swich := 1", "^s", "^d := 1", "^hops := 1", "^version := 1",
                     "[^por", "[^color = 1]", "[^sr]", "*^k", "+(^srd := 1)", "+(port := 1, ^por)", "[!^por]", "[&(^x)]"):
            self.marked(text)

    def test_signs_behind_fields(self):
        for text in ("port^", "port^= 1", "port^ = 1", "port^:= 1", "port^  := 1", "port^ :=1", "port^ :=", "port^ :",
                     "port^ ", "port^s := 1", "port^:=1", "[port^]", "[port^ := 1]", "[port^ =1]", "[port^ =",
                     "[port^", "[port^= 1]", "[port^ == 1]", "port^ : = 1"):
            self.marked(text)

    def test_numbers(self):
        for text in ("port := ^", "port := ^x", "port := ^ 1", "port := ^-1", "port := ^+1", "port := ^)",
                     "port := ^00", "port := ^01", "port := ^012", "[port = ^05]", "[port = ^]", "[port = ^",
                     "port := 10^0", "port := 99^9", "port := 10^00", "[port = 10^0]", "+(port := 12^3)",
                     "port := 1^.0", "port := 1^ ", "port := 0^x", "port := 1^_0"):
            self.marked(text)

    def test_numbers_in_other_digits(self):
        self.assertMisread("port := \u0661", 8)
        self.assertMisread("port := 1\u00b2", 9)

    def test_brackets(self):
        for text in ("+^", "+^port := 1", "+^ ()", "+^[dst = 5]", ";^", ";^)", "[&^", "[&^ ()]", "[|^]", "[|^dst = 5]",
                     "+(^", "+(^]", "+(^ )", "[^", "[^]", "[^()]", "[^por", "[&()^", "[&()^)",
                     "[dst = 5^", "[dst = 5^)", "[dst = 5^ ]", "[dst = 5^, dst = 5]", "+(port := 1^", "+(port := 1^]",
                     "[&(dst = 5^", "[&(dst = 5^]", "[&(dst = 5)^", "[&(dst = 5)^)", "[&(^"):
            self.marked(text)

    def test_what_is_in_brackets(self):
        # A test has no policies in it, and a policy has tests only in square brackets.
        for text in ("[^[dst = 5]]", "[^*dst = 5]", "[^+()]", "[&(^[dst = 5])]", "[!^;()]", "+(^!dst = 5)", "+(^&())",
                     "*^!dst = 5", "*^|()", "+(dst^ = 5)", "[dst^ := 5]", "*^", "[!^", "[!^]", "*^)", "+(*^)"):
            self.marked(text)

    def test_separators(self):
        for text in ("+(port := 1^,", "+(port := 1^,port := 1)", "+(port := 1^;", "+(port := 1^ , port := 1)",
                     "+(port := 1^ port := 1)", "+(port := 1, ^", "+(port := 1, ^)", "+(port := 1, ^, port := 1)",
                     "+(port := 1, ^ port := 1)", "+(^, port := 1)", "+(^,", "+(+()^,)", "[&(dst = 5^,dst = 5)]",
                     "[|(dst = 5, ^)]", "[|(dst = 5, ^", "[|(dst = 5^,", "+(port := 1^.", "+(port := 1^port := 1)"):
            self.marked(text)

    def test_behind_the_policy(self):
        for text in ("port := 1^)", "port := 1^, port := 1", "port := 1^ ", "+()^)", "+()^ ", "[dst = 5]^]", "[&()]^ ",
                     "*port := 1^*", ";()^;()", "+(port := 1)^,", "port := 1^\n"):
            self.marked(text)

    def test_other_signs(self):
        for text in ("port := 1^\u00a0", "port^\u00a0:= 1", "^\u00fc := 1"):
            self.marked(text)

    def test_ends_too_early(self):
        # Behind each sign the length; within a field, a sign or a separator where this begins; a number may end.
        text = "+([!&(dst = 5, src = 10)], *;(), port := 1)"
        begins = [0, 1, 2, 3, 4, 5, 6, 6, 6, 9, 9, 9, 12, 13, 13, 15, 15, 15, 18, 18, 18, 21, 22, 23, 24, 25, 25, 27, 28,
                  29, 30, 31, 31, 33, 33, 33, 33, 37, 37, 37, 37, 41, 42]
        self.assertEqual(len(begins), len(text))
        for length, at in enumerate(begins):
            self.assertMisread(text[:length], at)
        self.assertEqual(show_policy(read_policy(text)), text)

    def test_ends_too_early_wherever_it_is(self):
        # For drawn policies: the text does not go on at its end, or at the beginning of what it is within.
        chance = random.Random(2)
        drawing = Drawing(chance, {"port": [1], "dst": [0, 10, 99], "src": [7]}, ["port"])
        for _ in range(60):
            text = show_policy(("sum", [drawing.policy(3)]))
            for length in range(len(text)):
                with self.assertRaises(MisreadError) as caught:
                    read_policy(text[:length])
                at = caught.exception.at
                self.assertLessEqual(at, length)
                if at < length:
                    whole = [word for word in (*FIELDS, " = ", " := ", ", ") if text.startswith(word, at)]
                    self.assertTrue(whole and len(whole[0]) > length - at, (text, length, at))

    def test_one_sign_is_another_one(self):
        # Whatever one sign is changed to: up to the index all is as in some text of a policy, and not any more there.
        chance = random.Random(3)
        drawing = Drawing(chance, {"port": [1], "dst": [0, 10, 99], "src": [7]}, ["port"])
        for _ in range(300):
            text = show_policy(drawing.policy(3))
            place = chance.randrange(len(text))
            changed = text[:place] + chance.choice(SIGNS) + text[place + 1:]
            try:
                self.assertEqual(show_policy(read_policy(changed)), changed)
            except MisreadError as error:
                self.assertLessEqual(error.at, len(changed))
                # What comes behind the index makes no difference, but that tokens are read as wholes.
                with self.assertRaises(MisreadError) as again:
                    read_policy(changed[:error.at])
                self.assertLessEqual(again.exception.at, error.at)


class Deep(unittest.TestCase):
    def assertRefused(self, text, at):
        with self.assertRaises(MisreadError) as caught:
            read_policy(text)
        self.assertEqual(caught.exception.at, at)

    def assertRead(self, text):
        self.assertEqual(show_policy(read_policy(text)), text)

    def test_policies(self):
        self.assertRead("*" * 20 + "port := 1")
        self.assertRefused("*" * 21 + "port := 1", 21)
        self.assertRead("+(" * 20 + "port := 1" + ")" * 20)
        self.assertRefused("+(" * 21 + "port := 1" + ")" * 21, 42)
        self.assertRead(";(" * 21 + ")" * 21)
        self.assertRefused(";(" * 22 + ")" * 22, 42)

    def test_tests(self):
        # The test in a policy is in one other; so 19 around it, and one is in all of them.
        self.assertRead("[" + "!" * 19 + "dst = 5]")
        self.assertRefused("[" + "!" * 20 + "dst = 5]", 21)
        self.assertRead("[" + "&(" * 19 + "dst = 5" + ")" * 19 + "]")
        self.assertRefused("[" + "|(" * 20 + "dst = 5" + ")" * 20 + "]", 41)
        self.assertRead("[" + "|(" * 20 + ")" * 20 + "]")

    def test_both(self):
        self.assertRead("*" * 10 + "[" + "!" * 9 + "dst = 5]")
        self.assertRefused("*" * 10 + "[" + "!" * 10 + "dst = 5]", 21)
        self.assertRead("*" * 19 + "[dst = 5]")
        self.assertRefused("*" * 20 + "[dst = 5]", 21)
        self.assertRead("*" * 19 + "[&()]")
        self.assertRefused("*" * 21 + "[&()]", 21)

    def test_the_first_that_is_too_deep(self):
        text = "+(" * 20 + "port := 1, "
        self.assertRefused(text + "+(port := 1)" + ")" * 20, len(text) + 2)
        self.assertRefused("+(" * 20 + "+(port := 1), port := 1" + ")" * 20, 42)

    def test_what_is_too_deep_is_not_read(self):
        for rest in ("", "x", "port", "port := 01", "port := 1", ")", "*" * 500):
            self.assertRefused("*" * 21 + rest, 21)

    def test_a_fault_before(self):
        self.assertRefused("+(x, " + "*" * 30, 2)
        self.assertRefused("*" * 20 + "x", 20)

    def test_many_beside_each_other(self):
        self.assertRead("+(" + ", ".join(["*" * 19 + "port := 1"] * 50) + ")")


if __name__ == "__main__":
    unittest.main()
