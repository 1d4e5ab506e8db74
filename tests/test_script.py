"""Scripts (points 42 to 44)."""

import unittest

from hangbridge.errors import CommandError
from hangbridge.nets import Net
from hangbridge.script import run_script

PAIR = ["switches 2", "link 1 2 2 1"]
STARTED = [*PAIR, "start"]
THROUGH = "policy +(;([switch = 1], port := 2), ;([switch = 2], port := 0))"


def run(*lines):
    return run_script("\n".join(lines))


def told(*lines):
    """Return the output of lines behind the start of a pair of switches."""
    return run(*STARTED, *lines)[3:]


class Examples(unittest.TestCase):
    def test_of_the_document(self):
        self.assertEqual(run_script("switches 1\nstart\nrounds 20\nstate\ntable 1"),
                         ["switches 1", "start", "now 20", "now 20 phase rest version 0", "present 1",
                          "table tag 0 ways 0>0 rules -"])
        with self.assertRaises(CommandError) as caught:
            run_script("switches 2\nlink 1 1 1 2")
        self.assertEqual(caught.exception.line, 2)

    def test_a_whole_one(self):
        self.assertEqual(told("rounds 100", THROUGH, "rounds 100", "inject 1 4 5 6", "rounds 5", "events", "judge", "ways",
                              "state", "table 1", "table 2"),
                         ["now 100", "version 1", "now 200", "datum 1", "now 205", "events 2", "judge right", "ways 2",
                          "1 -", "2 2", "now 205 phase rest version 1", "present 1,2",
                          "table tag 1 ways 0>0,2>2 rules 1:1", "table tag 1 ways 0>1 rules 1:1"])


class Wrong(unittest.TestCase):
    def assertWrong(self, line, *lines):
        with self.assertRaises(CommandError) as caught:
            run(*lines)
        self.assertEqual(caught.exception.line, line, lines)

    def assertNone(self, *lines):
        """Check for each of some lines that it is no command behind the start of a pair."""
        for line in lines:
            with self.subTest(line):
                self.assertWrong(4, *STARTED, line)


class Beginnings(Wrong):
    def test_empty(self):
        self.assertEqual(run_script(""), [])
        self.assertEqual(run_script("\n\n\n"), [])

    def test_without_start(self):
        self.assertEqual(run("switches 3"), ["switches 3"])
        self.assertEqual(run(*PAIR), ["switches 2", "links 1"])

    def test_counts(self):
        for count in range(1, 9):
            self.assertEqual(run(f"switches {count}", "start"), [f"switches {count}", "start"])
        for word in ("0", "9", "10", "01", "-1", "+1", "x", "", "1 ", " 1", "1 1", "1.0", "99999999999999999999"):
            self.assertWrong(1, "switches " + word)
        self.assertWrong(1, "switches")

    def test_links(self):
        self.assertEqual(run("switches 3", "link 1 1 2 1", "link 2 2 3 1", "link 1 2 2 3", "start"),
                         ["switches 3", "links 1", "links 2", "links 3", "start"])
        # In any order, and with either end first.
        self.assertEqual(run("switches 3", "link 2 2 3 1", "link 2 1 1 1", "start", "cut 1 1", "heal 2 1", "cut 3 1"),
                         ["switches 3", "links 1", "links 2", "start", "cut", "heal", "cut"])
        self.assertEqual(run("switches 8", "link 7 6 8 6", "start")[1], "links 1")

    def test_links_that_leave_no_graph(self):
        for line in ("link 1 2 1 3", "link 1 2 1 2", "link 2 1 2 1", "link 1 2 3 1", "link 3 1 1 2", "link 0 1 1 1",
                     "link 1 0 2 1", "link 1 1 2 0", "link 1 7 2 1", "link 1 1 2 7", "link 9 1 1 1"):
            with self.subTest(line):
                self.assertWrong(2, "switches 2", line)

    def test_ends_twice(self):
        for line in ("link 1 2 2 1", "link 2 1 1 2", "link 1 2 2 2", "link 1 3 2 1", "link 2 1 1 3"):
            with self.subTest(line):
                self.assertWrong(3, *PAIR, line)
        self.assertEqual(run(*PAIR, "link 1 3 2 3")[2:], ["links 2"])

    def test_words_of_links(self):
        for line in ("link", "link 1 3 2", "link 1 3 2 3 4", "link 1 03 2 3", "link 1 3 2 x", "link 1  3 2 3",
                     "link 1 3 2 3 ", " link 1 3 2 3", "link 1 -3 2 3", "LINK 1 3 2 3", "links 1 3 2 3"):
            with self.subTest(line):
                self.assertWrong(3, *PAIR, line)

    def test_order(self):
        self.assertWrong(1, "link 1 1 2 1")
        self.assertWrong(1, "start")
        self.assertWrong(1, "state")
        self.assertWrong(2, "switches 2", "switches 2")
        self.assertWrong(3, *PAIR, "switches 2")
        for line in ("state", "rounds 1", "judge", "events", "deliver 0 0", "inject 1 0 0 0", "restart", THROUGH,
                     "start 1", "start ", " start"):
            self.assertWrong(3, *PAIR, line)
        self.assertNone("start", "switches 2", "link 1 3 2 3")

    def test_other_commands(self):
        self.assertNone("x", "stop", "State", "table1", "quit", "-", "?")


class Lines(Wrong):
    def test_empty_lines(self):
        self.assertEqual(run("", "switches 1", "", "", "start", "", "events", ""), ["switches 1", "start", "events 0"])

    def test_empty_lines_count(self):
        self.assertWrong(1, "x")
        self.assertWrong(3, "", "", "x")
        self.assertWrong(6, "switches 1", "", "start", "", "", "x", "y")

    def test_the_first_wrong_line(self):
        self.assertWrong(2, "switches 1", "x", "y")
        self.assertWrong(3, "switches 1", "start", "table 2", "table 1")

    def test_blank_lines_are_not_empty(self):
        self.assertWrong(1, " ")
        self.assertNone(" ", "  ")

    def test_spaces(self):
        for line in ("state", "rounds 1", "deliver 0 0", "cut 1 2", "inject 1 0 0 0", "restart", "table 1"):
            self.assertNone(" " + line, line + " ", line.replace(" ", "  ") if " " in line else line + "  ")

    def test_other_signs(self):
        self.assertNone("state\t", "\tstate", "rounds\t1", "state\r", "rounds \u0661", "state\u00a0")

    def test_long_scripts(self):
        self.assertEqual(run("switches 1", "start", *["events"] * 9000)[2:], ["events 0"] * 9000)


class Numbers(Wrong):
    RIGHT = {"deliver": "0 0", "lose": "0 0 0", "double": "0 0 0", "hasten": "0 0 0", "cut": "1 2", "heal": "1 2",
             "rounds": "1", "ticks": "1", "inject": "1 0 0 0", "reboot": "1", "restart": "", "table": "1", "state": "",
             "ways": "", "judge": "", "events": ""}

    def line(self, word, rest):
        return f"{word} {rest}" if rest else word

    def test_right(self):
        for word, rest in self.RIGHT.items():
            told(self.line(word, rest))

    def test_a_word_too_many(self):
        for word, rest in self.RIGHT.items():
            for more in ("0", "1", "x"):
                self.assertNone(self.line(word, rest) + " " + more)

    def test_a_word_missing(self):
        for word, rest in self.RIGHT.items():
            if rest:
                words = rest.split(" ")[:-1]
                self.assertNone(" ".join([word, *words]))

    def test_each_number(self):
        for word, rest in self.RIGHT.items():
            numbers = rest.split(" ") if rest else []
            for at, number in enumerate(numbers):
                for wrong in ("0" + number, "+" + number, "-" + number, number + ".0", "x", "99999", number + ","):
                    self.assertNone(" ".join([word, *numbers[:at], wrong, *numbers[at + 1:]]))

    def test_lanes(self):
        for end in ("0 0", "1 0", "1 2", "2 1"):
            self.assertEqual(told("deliver " + end), ["empty"])
            for word in ("lose", "double", "hasten"):
                self.assertEqual(told(f"{word} {end} 0", f"{word} {end} 31"), ["empty", "empty"])
        for end in ("2 0", "1 1", "2 2", "0 1", "3 1", "1 7", "9 0", "8 6"):
            self.assertNone("deliver " + end)
            for word in ("lose", "double", "hasten"):
                self.assertNone(f"{word} {end} 0")
        for word in ("lose", "double", "hasten"):
            self.assertNone(f"{word} 0 0 32")

    def test_the_greatest_switch_and_port(self):
        eight = ["switches 8", "link 7 6 8 6", "start"]
        self.assertEqual(run(*eight, "deliver 8 6", "lose 8 6 31", "double 8 6 31", "hasten 8 6 31", "cut 8 6", "heal 8 6",
                             "table 8", "inject 8 15 15 15", "reboot 8")[3:],
                         ["empty", "empty", "empty", "empty", "cut", "heal", "table tag 0 ways - rules -", "datum 1",
                          "reboot"])

    def test_ends(self):
        for word in ("cut", "heal"):
            self.assertEqual(told(word + " 1 2", word + " 2 1"), [word, word])
            self.assertNone(*[f"{word} {end}" for end in ("1 1", "2 2", "0 0", "1 0", "2 0", "3 1", "1 7", "9 1")])

    def test_times(self):
        for word in ("rounds", "ticks"):
            self.assertEqual(told(word + " 0", word + " 3"), ["now 0", "now 3"])
            self.assertEqual(run("switches 1", "start", word + " 5000")[-1], "now 5000")
            self.assertNone(word + " 5001", word + " 00")

    def test_switches(self):
        for word in ("table", "reboot"):
            self.assertEqual(len(told(word + " 1", word + " 2")), 2)
            self.assertNone(word + " 0", word + " 3", word + " 9")
        self.assertNone("inject 0 0 0 0", "inject 3 0 0 0", "inject 9 0 0 0")

    def test_headers(self):
        self.assertEqual(told("inject 1 15 15 15", "inject 2 0 0 0"), ["datum 1", "datum 2"])
        self.assertNone("inject 1 16 0 0", "inject 1 0 16 0", "inject 1 0 0 16")


class Steps(Wrong):
    def test_deliver(self):
        # The hail of the second tick goes to the switch 1, whose answer goes to the controller.
        self.assertEqual(told("ticks 2", "deliver 1 0", "deliver 0 0", "deliver 0 0", "deliver 1 0", "deliver 1 0"),
                         ["now 2", "empty", "delivered", "empty", "delivered", "empty"])

    def test_lose(self):
        self.assertEqual(told("ticks 2", "lose 0 0 1", "lose 0 0 0", "lose 0 0 0", "deliver 0 0"),
                         ["now 2", "empty", "done", "empty", "empty"])

    def test_double(self):
        self.assertEqual(told("ticks 2", "double 0 0 0", "double 0 0 1", "double 0 0 3", *["deliver 0 0"] * 4),
                         ["now 2", "done", "done", "empty", "delivered", "delivered", "delivered", "empty"])

    def test_hasten(self):
        # Both hails find an answer; the second one, hastened, is answered first, which makes no other difference.
        self.assertEqual(told("ticks 2", "double 0 0 0", "hasten 0 0 1", "hasten 0 0 2", "deliver 0 0", "lose 0 0 0",
                              "deliver 0 0"),
                         ["now 2", "done", "done", "empty", "delivered", "done", "empty"])

    def test_cut_and_heal(self):
        lines = ["rounds 100", "state", "cut 2 1", "rounds 200", "state", "heal 1 2", "rounds 200", "state"]
        self.assertEqual(told(*lines),
                         ["now 100", "now 100 phase rest version 0", "present 1,2", "cut",
                          "now 300", "now 300 phase rest version 0", "present 1", "heal",
                          "now 500", "now 500 phase rest version 0", "present 1,2"])

    def test_ticks(self):
        # Without deliveries nobody is found.
        self.assertEqual(told("ticks 30", "state"), ["now 30", "now 30 phase hail version 0", "present -"])

    def test_inject(self):
        self.assertEqual(told("inject 2 0 0 0", "inject 1 0 0 0", "events"), ["datum 1", "datum 2", "events 0"])

    def test_reboot(self):
        self.assertEqual(told("rounds 100", "table 2", "reboot 2", "table 2", "rounds 300", "table 2"),
                         ["now 100", "table tag 0 ways 0>1 rules -", "reboot", "table tag 0 ways - rules -", "now 400",
                          "table tag 0 ways 0>1 rules -"])

    def test_restart(self):
        self.assertEqual(told("rounds 100", "restart", "state", "rounds 200", "state"),
                         ["now 100", "restart", "now 100 phase rest version 0", "present -", "now 300",
                          "now 300 phase rest version 0", "present 1,2"])


class Policies(Wrong):
    def test_versions(self):
        lines = ["rounds 100", THROUGH, "rounds 100", THROUGH, "rounds 100", "state"]
        self.assertEqual(told(*lines), ["now 100", "version 1", "now 200", "version 2", "now 300",
                                        "now 300 phase rest version 2", "present 1,2"])

    def test_refused_policy(self):
        for text in ("port := 7", "switch := 1", "+([kind = 16], port := 1)", "*src := 99"):
            self.assertEqual(told("policy " + text, THROUGH), ["refused policy", "version 1"])

    def test_refused_room(self):
        outs = ", ".join([f"src := {number}" for number in range(9)])
        rules = ", ".join([f";([&(src = {number // 14}, dst = {number % 14})], port := 1)" for number in range(45)])
        rooms = ", ".join([f";([dst = {number}], port := {port})" for port in (1, 2, 3) for number in range(15)])
        for text in (f";(port := 1, +({outs}))", f"+({rules})"):
            self.assertEqual(told("policy " + text), ["refused room"])
        self.assertEqual(told("policy +(" + rooms + ")"), ["version 1"])

    def test_refused_room_beside_another_policy(self):
        many = ", ".join([f";([&(src = {number // 14}, dst = {number % 14})], port := 1)" for number in range(35)])
        lines = ["rounds 100", f"policy +({many})", "rounds 300", f"policy +({many})", "policy +()", "rounds 300", "state"]
        self.assertEqual(told(*lines), ["now 100", "version 1", "now 400", "refused room", "version 2", "now 700",
                                        "now 700 phase rest version 2", "present 1,2"])

    def test_refused_waits(self):
        self.assertEqual(told(THROUGH, THROUGH, "policy +()"), ["version 1", "refused waits", "refused waits"])
        # What is no policy is found out first.
        self.assertEqual(told(THROUGH, "policy port := 9"), ["version 1", "refused policy"])

    # None of these can be read, though some nearly can.
    UNREAD = ["x", "+(", "1", " ", "-", "*", "[", "()", "policy", "port", "port = 1", "port:= 1", "port := 100", "port := 01",
              "port := -1", " port := 1", "port := 1 ", "port := 1 port := 2", "+(port := 1,  port := 2)", "+(port := 1",
              "+(port := 1))", "[dst := 1]", "[switch = 1", "Port := 1", "version 1", "*" * 21 + "port := 1"]

    def test_texts_that_cannot_be_read(self):
        for text in self.UNREAD:
            with self.subTest(text):
                # No version is taken, and the next policy does not find one that waits.
                self.assertEqual(told("policy " + text, "state", THROUGH),
                                 ["refused policy", "now 0 phase rest version 0", "present -", "version 1"])
        self.assertEqual(told("policy " + "*" * 20 + "port := 1"), ["version 1"])

    def test_texts_that_cannot_be_read_one_after_the_other(self):
        lines = ["policy " + text for text in self.UNREAD]
        self.assertEqual(told(*lines), ["refused policy"] * len(lines))

    def test_unread_while_a_policy_waits(self):
        lines = [THROUGH, "policy x", THROUGH, "rounds 200", "policy +(", "state"]
        self.assertEqual(told(*lines), ["version 1", "refused policy", "refused waits", "now 200", "refused policy",
                                        "now 200 phase rest version 1", "present 1,2"])

    def test_lines_behind_an_unread_one(self):
        self.assertWrong(6, *STARTED, "policy x", "policy +(", "x", "policy x")
        self.assertWrong(8, *STARTED, "policy x", "", "policy port := 9", "", "table 3")

    def test_without_a_text(self):
        self.assertNone("policy", "policy ")
        self.assertWrong(5, *STARTED, "policy x", "policy")

    def test_other_words(self):
        self.assertNone("Policy x", " policy x", "policyx", "policies x", "policy+()")

    def test_before_the_start(self):
        self.assertWrong(1, "policy x")
        self.assertWrong(3, *PAIR, "policy x", "start")


class Shown(unittest.TestCase):
    def test_table(self):
        self.assertEqual(told("table 1", "table 2"), ["table tag 0 ways - rules -"] * 2)
        self.assertEqual(told("rounds 100", "table 1"), ["now 100", "table tag 0 ways 0>0,2>2 rules -"])
        many = ", ".join([f";([dst = {number}], port := 1)" for number in range(12)])
        self.assertEqual(told("rounds 100", f"policy +({many})", "rounds 200", "table 2"),
                         ["now 100", "version 1", "now 300", "table tag 1 ways 0>1 rules 1:12"])

    def test_table_with_several_versions(self):
        # While the second version is brought in, both are there, and the tag is the first one at first.
        lines = ["rounds 100", THROUGH, "rounds 100", "policy ;([dst = 3], port := 0)"]
        seen = {told(*lines, f"rounds {many}", "table 1")[-1] for many in range(40)}
        self.assertEqual(seen, {"table tag 1 ways 0>0,2>2 rules 1:1", "table tag 1 ways 0>0,2>2 rules 1:1,2:1",
                                "table tag 2 ways 0>0,2>2 rules 1:1,2:1", "table tag 2 ways 0>0,2>2 rules 2:1"})

    def test_state(self):
        self.assertEqual(told("state"), ["now 0 phase rest version 0", "present -"])
        phases = []
        for many in range(60):
            line = told(THROUGH, f"rounds {many}", "state")[2]
            words = line.split(" ")
            self.assertEqual(words[:3], ["now", str(many), "phase"])
            phases.append(words[3])
        # The first "lay" ends at once, as nobody is in session.
        self.assertEqual(list(dict.fromkeys(phases)), ["rest", "hail", "check", "add", "tag", "drop", "lay", "mend"])

    def test_ways(self):
        self.assertEqual(told("ways"), ["ways 0"])
        row = ["switches 4", "link 1 1 2 6", "link 2 3 3 5", "link 3 2 4 4", "start", "rounds 500"]
        self.assertEqual(run(*row, "ways", "cut 4 4", "rounds 100", "ways")[6:],
                         ["ways 4", "1 -", "2 1", "3 1,3", "4 1,3,2", "cut", "now 600", "ways 3", "1 -", "2 1", "3 1,3"])

    def test_events(self):
        lines = ["rounds 100", THROUGH, "rounds 100", "inject 1 0 0 0", "events", "rounds 3", "events", "inject 2 0 0 0",
                 "events"]
        self.assertEqual(told(*lines)[3:], ["datum 1", "events 1", "now 203", "events 2", "datum 2", "events 3"])

    def test_judge(self):
        self.assertEqual(told("judge"), ["judge right"])

    def test_judge_of_a_wrong_event(self):
        wrong = {1: (9, 0, 1, 1, (0, 0, 0), []), 2: (1, 0, 1, 1, (0, 0, 0), [(5, (0, 0, 0))]),
                 4: (2, 1, 1, 7, (0, 0, 0), [])}
        inject = Net.inject
        for rule, event in wrong.items():
            def also(net, switch, header, event=event):
                number = inject(net, switch, header)
                net.events.append(event if number == 2 else (1, 0, 1, number + 20, (0, 0, 0), []))
                return number
            Net.inject = also
            try:
                self.assertEqual(told(THROUGH, "inject 1 0 0 0", "inject 1 0 0 0", "judge")[-1], f"judge {rule} 1")
            finally:
                Net.inject = inject


if __name__ == "__main__":
    unittest.main()
