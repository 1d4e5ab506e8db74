import copy
import unittest

from hangbridge.agents import Agent
from hangbridge.errors import RoomError
from hangbridge.frames import read_frame, write_frame
from hangbridge.orders import read_order, write_order

HEADER = (4, 5, 6)
SAME = (None, None, None)
ANY = (None, None, None, None)
MALFORMED = ("", "datum", "datum 1 2 3 4 5 6", "datum 1 2 3 4 5 6*0", "probe 1 7 0*5", "\n")


def datum(version, hops=5, number=9, header=HEADER):
    return write_frame(("datum", version, hops, number, header))


def probe(origin, nonce=7, found=None):
    return write_frame(("probe", origin, nonce, found))


def segment(kind, number, text="", epoch=1, to=3, sender=0, hops=12):
    return write_frame(("segment", to, sender, hops, epoch, kind, number, text))


def answer(kind, number, text="", epoch=1):
    return segment(kind, number, text, epoch, to=0, sender=3)


def state(agent):
    """Return all that can be seen of a switch but the number of dropped frames."""
    return copy.deepcopy((agent.table.ways, agent.table.rules, agent.table.tag, agent.living, agent.uplink,
                          agent.errors, agent.guest.epoch, agent.guest.boot))


def in_session(port=2, epoch=1):
    """Return the switch 3 in a session that it has heard and that knows nothing else."""
    agent = Agent(3, 1)
    agent.take(port, segment("hail", 1, epoch=epoch), 0)
    agent.take(port, segment("ack", 0, epoch=epoch), 0)
    return agent


class Commander:
    """A switch in session, and the numbers of the orders that it gets."""

    def __init__(self, port=2):
        self.agent = in_session(port)
        self.port = port
        self.number = 0
        self.now = 0

    def order(self, *orders):
        """Let orders be done, one by one; return what goes out because of them."""
        out = []
        for order in orders:
            self.number += 1
            text = order if isinstance(order, str) else write_order(order)
            pairs, events = self.agent.take(self.port, segment("data", self.number - 1, text), self.now)
            assert events == []
            out += pairs
        return out

    def told(self):
        """Return the orders that the switch says at a tick for the first time."""
        self.now += 1
        orders = []
        for port, text in self.agent.tick(self.now):
            frame = read_frame(text)
            if frame[5] == "data":
                orders.append(read_order(frame[7]))
                self.agent.take(self.port, segment("ack", frame[6] + 1), self.now)
        return orders


def with_rules(tag=4):
    """Return the switch 3 with rules of the versions 4 and 5 and a tag."""
    agent = Agent(3, 1)
    for version, outs in ((4, [(2, SAME), (0, SAME), (1, (9, None, None)), (2, (4, None, None))]), (5, [(6, SAME)])):
        agent.table.add(version, (None, 4, None, None), outs)
    agent.table.retag(tag, len(agent.table.rules.get(tag, [])))
    return agent


class NewSwitches(unittest.TestCase):
    def test_attributes(self):
        agent = Agent(3, 7)
        self.assertEqual((agent.table.ways, agent.table.rules, agent.table.tag), ({}, {}, 0))
        self.assertEqual((agent.guest.epoch, agent.guest.boot), (0, 7))
        self.assertEqual(sorted(agent.living), [1, 2, 3, 4, 5, 6])
        self.assertIsInstance(agent.living, dict)
        self.assertEqual((agent.uplink, agent.errors, agent.dropped), (0, 0, 0))

    def test_says_nothing(self):
        agent = Agent(3, 7)
        self.assertEqual([agent.tick(now) for now in range(20)], [[]] * 20)

    def test_switches_share_nothing(self):
        one, other = Agent(1, 1), Agent(2, 1)
        one.turn(4, False)
        one.table.lay(0, 0)
        self.assertEqual((sorted(other.living), other.table.ways), ([1, 2, 3, 4, 5, 6], {}))


class Ports(unittest.TestCase):
    def test_malformed_frames(self):
        for port in range(7):
            agent = with_rules()
            before = state(agent)
            for at, text in enumerate(MALFORMED):
                self.assertEqual(agent.take(port, text, at), ([], []))
                self.assertEqual(agent.dropped, at + 1)
            self.assertEqual(state(agent), before)

    def test_malformed_frames_in_a_session(self):
        boss = Commander()
        boss.agent.turn(5, False)
        told = copy.deepcopy(boss.agent)
        for text in MALFORMED:
            for port in range(7):
                boss.agent.take(port, text, 1)
        self.assertEqual(boss.agent.dropped, 7 * len(MALFORMED))
        self.assertEqual(state(boss.agent), state(told))
        self.assertEqual(boss.agent.tick(1), told.tick(1))

    def test_malformed_frames_at_dead_ports_are_dropped_once(self):
        agent = Agent(3, 1)
        agent.turn(2, False)
        agent.take(2, "x", 0)
        self.assertEqual(agent.dropped, 1)

    def test_frames_at_dead_ports(self):
        for text in (datum(4), probe((1, 1)), probe((3, 2), 7, (1, 1)), segment("hail", 1), segment("hail", 0),
                     segment("data", 0, "wipe", to=5)):
            agent = with_rules()
            agent.table.lay(5, 1)
            agent.turn(2, False)
            before = state(agent)
            self.assertEqual(agent.take(2, text, 0), ([], []))
            self.assertEqual((agent.dropped, state(agent)), (1, before))

    def test_frames_at_ports_that_live_again(self):
        agent = with_rules()
        agent.turn(2, False)
        agent.turn(2, True)
        self.assertEqual(agent.take(2, probe((1, 1)), 0), ([(2, probe((1, 1), 7, (3, 2)))], []))
        self.assertEqual(agent.dropped, 0)

    def test_the_port_0_lives_always(self):
        agent = with_rules()
        for port in range(7):
            agent.turn(port, False)
        self.assertEqual(agent.take(0, segment("hail", 0), 0), ([(0, answer("here", 1))], []))
        agent.take(0, segment("hail", 1), 0)
        agent.take(0, segment("ack", 0), 0)
        self.assertEqual(agent.take(0, datum(0), 0)[1][0][:4], (3, 0, 4, 9))
        self.assertEqual(agent.dropped, 0)
        agent.take(0, segment("data", 0, "wipe"), 1)
        self.assertEqual(agent.tick(1), [(0, answer("ack", 1))])

    def test_what_goes_out_at_a_dead_port_is_lost(self):
        agent = with_rules()
        agent.turn(2, False)
        out, events = agent.take(1, datum(4), 0)
        self.assertEqual(out, [(1, datum(4, 4, header=(9, 5, 6)))])
        self.assertEqual(events, [(3, 1, 4, 9, HEADER, [(0, HEADER), (1, (9, 5, 6)), (2, HEADER)])])
        self.assertEqual(agent.dropped, 0)

    def test_segments_at_a_dead_port_are_lost(self):
        agent = Agent(3, 1)
        agent.table.lay(5, 4)
        agent.turn(4, False)
        before = state(agent)
        self.assertEqual(agent.take(1, segment("data", 0, "wipe", to=5), 0), ([], []))
        self.assertEqual((agent.dropped, state(agent)), (0, before))

    def test_what_is_said_at_a_dead_uplink_is_lost_but_said(self):
        agent = in_session(2)
        agent.turn(2, False)
        self.assertEqual(agent.tick(1), [])
        agent.turn(2, True)
        # The first "port" was said at tick 1 and is due again only at tick 3; the second one is fresh.
        self.assertEqual(agent.tick(2), [(2, answer("data", 1, "port 2 1"))])
        self.assertEqual(agent.tick(3), [(2, answer("data", 0, "port 2 0")), (2, answer("data", 1, "port 2 1"))])


class Data(unittest.TestCase):
    def test_from_outside(self):
        for written in (0, 4, 5, 200):
            agent = with_rules()
            out, events = agent.take(0, datum(written), 0)
            self.assertEqual(out, [(1, datum(4, 4, header=(9, 5, 6))), (2, datum(4, 4))])
            self.assertEqual(events, [(3, 0, 4, 9, HEADER, [(0, HEADER), (1, (9, 5, 6)), (2, HEADER)])])
            self.assertEqual(agent.dropped, 0)

    def test_from_outside_without_a_tag(self):
        for written in (0, 4, 5):
            agent = with_rules(0)
            self.assertEqual(agent.take(0, datum(written), 0), ([], []))
            self.assertEqual(agent.dropped, 1)

    def test_from_inside_keeps_its_version(self):
        for tag in (0, 4, 5):
            agent = with_rules(tag)
            out, events = agent.take(6, datum(5), 0)
            self.assertEqual(out, [(6, datum(5, 4))])
            self.assertEqual(events, [(3, 6, 5, 9, HEADER, [(6, HEADER)])])

    def test_version_0_from_inside(self):
        agent = with_rules()
        self.assertEqual(agent.take(1, datum(0), 0), ([], []))
        self.assertEqual(agent.dropped, 1)

    def test_hops(self):
        for port in (0, 1):
            for hops in (1, 12, 16):
                agent = with_rules(5)
                out, events = agent.take(port, datum(5, hops), 0)
                self.assertEqual(out, [(6, datum(5, hops - 1))])
                self.assertEqual((len(events), agent.dropped), (1, 0))
            agent = with_rules(5)
            self.assertEqual(agent.take(port, datum(5, 0), 0), ([], []))
            self.assertEqual(agent.dropped, 1)

    def test_nothing_is_done(self):
        agent = with_rules()
        header = (0, 5, 6)
        for port, version in ((0, 4), (1, 4), (1, 77)):
            self.assertEqual(agent.take(port, datum(version, header=header), 0),
                             ([], [(3, port, version, 9, header, [])]))
        agent.table.add(6, ANY, [])
        self.assertEqual(agent.take(1, datum(6), 0), ([], [(3, 1, 6, 9, HEADER, [])]))
        self.assertEqual(agent.dropped, 0)

    def test_port_0_goes_out_in_the_event_alone(self):
        agent = Agent(3, 1)
        agent.table.add(1, ANY, [(0, (1, 2, 3))])
        self.assertEqual(agent.take(1, datum(1), 0), ([], [(3, 1, 1, 9, HEADER, [(0, (1, 2, 3))])]))

    def test_back_at_the_port(self):
        agent = Agent(3, 1)
        agent.table.add(1, ANY, [(1, SAME)])
        self.assertEqual(agent.take(1, datum(1), 0)[0], [(1, datum(1, 4))])

    def test_several_headers_at_one_port_in_order(self):
        agent = Agent(3, 1)
        agent.table.add(1, ANY, [(2, (9, None, None)), (2, (1, None, None)), (1, SAME), (2, (9, None, None))])
        out, events = agent.take(5, datum(1), 0)
        self.assertEqual(out, [(1, datum(1, 4)), (2, datum(1, 4, header=(1, 5, 6))),
                               (2, datum(1, 4, header=(9, 5, 6)))])
        self.assertEqual(events[0][5], [(1, HEADER), (2, (1, 5, 6)), (2, (9, 5, 6))])

    def test_events_are_their_own(self):
        agent = with_rules()
        agent.take(0, datum(0), 0)[1][0][5].clear()
        self.assertEqual(len(agent.take(0, datum(0), 0)[1][0][5]), 3)


class Probes(unittest.TestCase):
    def test_at_port_0(self):
        for text in (probe((1, 1)), probe((3, 1), 7, (1, 1))):
            agent = in_session()
            self.assertEqual(agent.take(0, text, 1), ([], []))
            self.assertEqual((agent.dropped, agent.tick(1)), (1, []))

    def test_that_nobody_has_found(self):
        for agent in (Agent(3, 1), in_session()):
            for origin in ((1, 1), (8, 6), (3, 2), (3, 5)):
                self.assertEqual(agent.take(5, probe(origin, 8), 1), ([(5, probe(origin, 8, (3, 5)))], []))
            self.assertEqual((agent.dropped, agent.tick(1)), (0, []))

    def test_of_this_switch_and_port(self):
        agent = in_session(2)
        self.assertEqual(agent.take(5, probe((3, 5), 8, (1, 6)), 1), ([], []))
        self.assertEqual(agent.tick(1), [(2, answer("data", 0, "link 5 1 6 8"))])
        self.assertEqual(agent.dropped, 0)

    def test_of_this_switch_and_port_without_a_session(self):
        agent = Agent(3, 1)
        self.assertEqual(agent.take(5, probe((3, 5), 8, (1, 6)), 1), ([], []))
        self.assertEqual((agent.dropped, agent.errors, agent.tick(1)), (0, 0, []))

    def test_of_another_port_or_switch(self):
        for origin in ((3, 4), (2, 5), (5, 3)):
            for agent in (Agent(3, 1), in_session()):
                self.assertEqual(agent.take(5, probe(origin, 8, (1, 6)), 1), ([], []))
                self.assertEqual((agent.dropped, agent.tick(1)), (1, []))

    def test_found_by_this_switch(self):
        agent = in_session(2)
        agent.take(5, probe((3, 5), 0, (3, 6)), 1)
        self.assertEqual(agent.tick(1), [(2, answer("data", 0, "link 5 3 6 0"))])


class Segments(unittest.TestCase):
    def test_to_others(self):
        agent = Agent(3, 1)
        agent.table.lay(5, 4)
        agent.table.lay(0, 6)
        for port in range(7):
            for hops in (1, 2, 16):
                text = segment("data", 8, "a  b", 77, to=5, hops=hops)
                self.assertEqual(agent.take(port, text, 0),
                                 ([(4, segment("data", 8, "a  b", 77, to=5, hops=hops - 1))], []))
                text = segment("ack", 8, "", 77, to=0, sender=5, hops=hops)
                self.assertEqual(agent.take(port, text, 0),
                                 ([(6, segment("ack", 8, "", 77, to=0, sender=5, hops=hops - 1))], []))
        self.assertEqual((agent.dropped, agent.uplink), (0, 0))

    def test_to_others_at_port_0(self):
        agent = Agent(3, 1)
        agent.table.lay(0, 0)
        self.assertEqual(agent.take(4, segment("ack", 1, to=0, sender=5), 0),
                         ([(0, segment("ack", 1, to=0, sender=5, hops=11))], []))

    def test_to_others_with_hops_0(self):
        agent = Agent(3, 1)
        agent.table.lay(5, 4)
        self.assertEqual(agent.take(1, segment("data", 0, to=5, hops=0), 0), ([], []))
        self.assertEqual(agent.dropped, 1)

    def test_to_others_without_a_way(self):
        agent = Agent(3, 1)
        agent.table.lay(3, 4)
        for to in (0, 1, 5, 8):
            for port in (0, 1):
                self.assertEqual(agent.take(port, segment("data", 0, to=to), 0), ([], []))
        self.assertEqual(agent.dropped, 8)

    def test_to_this_switch_ignores_hops_and_ways(self):
        agent = Agent(3, 1)
        agent.table.lay(3, 4)
        self.assertEqual(agent.take(5, segment("hail", 0, hops=0), 0), ([(5, answer("here", 1))], []))
        self.assertEqual(agent.dropped, 0)

    def test_hails(self):
        agent = Agent(3, 4)
        self.assertEqual(agent.take(5, segment("hail", 0, epoch=7), 0), ([(5, answer("here", 4, epoch=7))], []))
        self.assertEqual((agent.uplink, agent.guest.epoch), (0, 0))
        self.assertEqual(agent.take(5, segment("hail", 4, epoch=7), 0), ([(5, answer("open", 4, epoch=7))], []))
        self.assertEqual((agent.uplink, agent.guest.epoch), (5, 7))
        # The same epoch is answered once more, and at another port.
        self.assertEqual(agent.take(6, segment("hail", 4, epoch=7), 0), ([(6, answer("open", 4, epoch=7))], []))
        self.assertEqual((agent.uplink, agent.guest.epoch), (6, 7))
        # A wrong boot number and a lesser epoch do not move the uplink.
        self.assertEqual(agent.take(1, segment("hail", 3, epoch=7), 0), ([(1, answer("here", 4, epoch=7))], []))
        self.assertEqual(agent.take(1, segment("hail", 3, epoch=8), 0), ([(1, answer("here", 4, epoch=8))], []))
        self.assertEqual(agent.take(1, segment("hail", 4, epoch=6), 0), ([], []))
        self.assertEqual((agent.uplink, agent.guest.epoch, agent.dropped), (6, 7, 0))
        self.assertEqual(agent.take(1, segment("hail", 4, epoch=8), 0), ([(1, answer("open", 4, epoch=8))], []))
        self.assertEqual((agent.uplink, agent.guest.epoch), (1, 8))

    def test_uplink_by_epochs(self):
        for kind in ("data", "ack", "here", "open"):
            for epoch, uplink in ((6, 2), (7, 5), (8, 2), (0, 2)):
                agent = in_session(2, 7)
                self.assertEqual(agent.take(5, segment(kind, 0, epoch=epoch), 0), ([], []))
                self.assertEqual((agent.uplink, agent.dropped, agent.guest.epoch), (uplink, 0, 7))

    def test_uplink_without_a_session(self):
        for kind in ("data", "ack", "here", "open"):
            agent = Agent(3, 1)
            self.assertEqual(agent.take(5, segment(kind, 0, "wipe", epoch=0), 0), ([], []))
            self.assertEqual((agent.uplink, agent.tick(0)), (0, []))

    def test_uplink_may_become_0(self):
        agent = in_session(2)
        agent.take(0, segment("data", 0, "wipe"), 0)
        self.assertEqual((agent.uplink, agent.tick(0)), (0, [(0, answer("ack", 1))]))

    def test_ticks_go_out_at_the_uplink(self):
        agent = in_session(2)
        agent.turn(1, False)
        agent.take(4, segment("data", 0, "wipe"), 1)
        self.assertEqual(agent.tick(1), [(4, answer("ack", 1)), (4, answer("data", 0, "port 1 0"))])
        self.assertEqual([agent.tick(2), agent.tick(3)], [[], [(4, answer("data", 0, "port 1 0"))]])

    def test_several_orders_whose_turn_comes_at_once(self):
        agent = in_session(2)
        texts = ["probe 4 1", "tag 9 1", "probe 5 2", "barrier 3"]
        for number in (3, 2, 1):
            self.assertEqual(agent.take(2, segment("data", number, texts[number]), 1), ([], []))
        self.assertEqual(agent.errors, 0)
        self.assertEqual(agent.take(2, segment("data", 0, texts[0]), 1),
                         ([(4, probe((3, 4), 1)), (5, probe((3, 5), 2))], []))
        self.assertEqual(agent.tick(1), [(2, answer("ack", 4)), (2, answer("data", 0, "done 3 1"))])

    def test_orders_are_done_once(self):
        agent = in_session(2)
        text = segment("data", 0, "probe 4 1")
        self.assertEqual(agent.take(2, text, 1), ([(4, probe((3, 4), 1))], []))
        self.assertEqual(agent.take(2, text, 1), ([], []))
        self.assertEqual(agent.tick(1), [(2, answer("ack", 1))])

    def test_orders_of_another_epoch_are_not_done(self):
        agent = in_session(2, 7)
        for epoch in (6, 8):
            self.assertEqual(agent.take(2, segment("data", 0, "way 5 1", epoch=epoch), 1), ([], []))
        self.assertEqual((agent.table.ways, agent.tick(1)), ({}, []))

    def test_a_new_session_forgets_the_old_one(self):
        agent = in_session(2, 7)
        agent.turn(1, False)
        agent.take(2, segment("data", 1, "way 5 1", epoch=7), 1)
        agent.take(2, segment("hail", 1, epoch=8), 2)
        self.assertEqual(agent.tick(2), [])
        agent.take(2, segment("data", 0, "way 6 1", epoch=8), 3)
        self.assertEqual(agent.table.ways, {6: 1})
        self.assertEqual(agent.tick(3), [(2, answer("ack", 1, epoch=8))])


class Orders(unittest.TestCase):
    def test_wipe_strip_and_drop(self):
        for order, ways, versions, tag in (
            (("wipe",), {}, [], 0), (("strip",), {}, [4], 4), (("drop", 5), {0: 1, 7: 2}, [4], 4),
            (("drop", 4), {0: 1, 7: 2}, [5], 4), (("drop", 0), {0: 1, 7: 2}, [4, 5], 4),
            (("unway", 7), {0: 1}, [4, 5], 4), (("unway", 6), {0: 1, 7: 2}, [4, 5], 4),
        ):
            boss = Commander()
            table = boss.agent.table
            boss.order(("way", 0, 1), ("way", 7, 2), ("add", 4, ANY, []), ("add", 5, ANY, []), ("tag", 4, 1))
            self.assertEqual(boss.order(order), [])
            self.assertEqual((table.ways, sorted(table.rules), table.tag), (ways, versions, tag))
            self.assertEqual((boss.agent.errors, boss.agent.uplink, boss.told()), (0, 2, []))

    def test_add(self):
        boss = Commander()
        rules = [((1, None, 3, None), [(2, (None, 1, None))]), (ANY, [])]
        boss.order(*[("add", 4, match, outs) for match, outs in rules])
        self.assertEqual((boss.agent.table.rules, boss.agent.errors), ({4: rules}, 0))

    def test_tag(self):
        boss = Commander()
        boss.order(("add", 4, ANY, []), ("tag", 4, 1))
        self.assertEqual((boss.agent.table.tag, boss.agent.errors), (4, 0))
        for errors, order in enumerate((("tag", 4, 2), ("tag", 4, 0), ("tag", 5, 1)), 1):
            boss.order(order)
            self.assertEqual((boss.agent.table.tag, boss.agent.errors), (4, errors))
        boss.order(("tag", 0, 0))
        self.assertEqual((boss.agent.table.tag, boss.agent.errors), (0, 3))

    def test_keep(self):
        boss = Commander()
        boss.order(("way", 0, 1), ("add", 4, ANY, []), ("add", 5, ANY, []), "nonsense", "nonsense")
        self.assertEqual(boss.agent.errors, 2)
        boss.order(("keep", 4, 2))
        self.assertEqual((boss.agent.table.tag, boss.agent.table.ways, boss.agent.errors), (0, {0: 1}, 1))
        boss.order("nonsense", ("keep", 4, 1))
        self.assertEqual((boss.agent.table.tag, boss.agent.table.ways, boss.agent.errors), (4, {}, 0))
        self.assertEqual(boss.agent.table.rules, {4: [(ANY, [])]})
        boss.order(("keep", 5, 1))
        self.assertEqual((boss.agent.table.tag, boss.agent.errors), (4, 1))

    def test_room(self):
        boss = Commander()
        boss.order(*[("way", to, 1) for to in range(3)], *[("add", 4, ANY, [])] * 61)
        self.assertEqual((boss.agent.table.count(), boss.agent.errors), (64, 0))
        boss.order(("way", 2, 5))
        self.assertEqual((boss.agent.table.ways[2], boss.agent.errors), (5, 0))
        boss.order(("way", 3, 1))
        self.assertEqual((boss.agent.table.ways, boss.agent.errors), ({0: 1, 1: 1, 2: 5}, 1))
        boss.order(("add", 4, ANY, []))
        self.assertEqual((len(boss.agent.table.rules[4]), boss.agent.errors), (61, 2))

    def test_probe(self):
        boss = Commander()
        boss.agent.turn(5, False)
        boss.told()
        self.assertEqual(boss.order(("probe", 4, 9)), [(4, probe((3, 4), 9))])
        self.assertEqual(boss.order(("probe", 2, 0)), [(2, probe((3, 2), 0))])
        self.assertEqual(boss.order(("probe", 0, 9), ("probe", 5, 9)), [])
        self.assertEqual((boss.agent.errors, boss.agent.dropped, boss.told()), (0, 0, []))

    def test_barrier(self):
        boss = Commander()
        self.assertEqual(boss.order(("barrier", 12)), [])
        self.assertEqual((boss.agent.errors, boss.told()), (0, [("done", 12, 0)]))
        boss.order("nonsense", ("tag", 1, 1), ("barrier", 11))
        self.assertEqual((boss.agent.errors, boss.told()), (0, [("done", 11, 2)]))
        boss.order(("barrier", 11))
        self.assertEqual((boss.agent.errors, boss.told()), (0, [("done", 11, 0)]))

    def test_orders_to_the_controller_do_nothing(self):
        boss = Commander()
        boss.order(("way", 0, 1), "nonsense")
        before = state(boss.agent)
        self.assertEqual(boss.order(("done", 1, 1), ("link", 1, (2, 2), 3), ("port", 2, 0), ("port", 2, 1)), [])
        self.assertEqual((state(boss.agent), boss.told()), (before, []))

    def test_texts_that_are_no_order(self):
        texts = ("", "wipe 1", "nonsense", "way 1", "tag 1 65", "probe 7 1", "add 0 -,-,-,- -", "barrier -1", "WIPE")
        boss = Commander()
        before = state(boss.agent)
        for errors, text in enumerate(texts, 1):
            self.assertEqual(boss.order(text), [])
            self.assertEqual(boss.agent.errors, errors)
        boss.agent.errors = 0
        self.assertEqual((state(boss.agent), boss.told()), (before, []))

    def test_errors_stay_but_for_keep_and_barrier(self):
        boss = Commander()
        boss.order("nonsense")
        for order in (("wipe",), ("strip",), ("add", 1, ANY, []), ("tag", 1, 1), ("drop", 1), ("way", 1, 1),
                      ("unway", 1), ("probe", 1, 1)):
            boss.order(order)
            self.assertEqual(boss.agent.errors, 1, order)

    def test_uplink_stays(self):
        boss = Commander(6)
        boss.order(("way", 0, 1), ("wipe",), ("strip",), ("keep", 0, 0), ("barrier", 1))
        self.assertEqual(boss.agent.uplink, 6)


class FullSenders(unittest.TestCase):
    def full(self):
        boss = Commander()
        for _ in range(300):
            boss.agent.guest.send("x")
        self.assertEqual(boss.agent.errors, 0)
        with self.assertRaises(RoomError):
            boss.agent.guest.send("x")
        return boss

    def test_barrier(self):
        boss = self.full()
        boss.order("nonsense", "nonsense", ("barrier", 1))
        # The barrier makes the errors 0 first, and then there is no room for its "done".
        self.assertEqual(boss.agent.errors, 1)

    def test_link(self):
        boss = self.full()
        for errors in (1, 2):
            self.assertEqual(boss.agent.take(5, probe((3, 5), 8, (1, 6)), 1), ([], []))
            self.assertEqual((boss.agent.errors, boss.agent.dropped), (errors, 0))

    def test_port(self):
        boss = self.full()
        boss.agent.turn(5, False)
        self.assertEqual((sorted(boss.agent.living), boss.agent.errors), ([1, 2, 3, 4, 6], 1))
        boss.agent.turn(5, False)
        self.assertEqual(boss.agent.errors, 1)
        boss.agent.turn(5, True)
        self.assertEqual((sorted(boss.agent.living), boss.agent.errors), ([1, 2, 3, 4, 5, 6], 2))


class Turning(unittest.TestCase):
    def test_off_and_on(self):
        boss = Commander()
        agent = boss.agent
        agent.turn(4, False)
        self.assertEqual((sorted(agent.living), boss.told()), ([1, 2, 3, 5, 6], [("port", 4, 0)]))
        agent.turn(4, False)
        self.assertEqual((sorted(agent.living), boss.told()), ([1, 2, 3, 5, 6], []))
        agent.turn(4, True)
        self.assertEqual((sorted(agent.living), boss.told()), ([1, 2, 3, 4, 5, 6], [("port", 4, 1)]))
        agent.turn(4, True)
        self.assertEqual((sorted(agent.living), boss.told(), agent.errors), ([1, 2, 3, 4, 5, 6], [], 0))

    def test_both_are_told_in_order(self):
        boss = Commander()
        boss.agent.turn(1, False)
        boss.agent.turn(6, False)
        boss.agent.turn(1, True)
        self.assertEqual(boss.told(), [("port", 1, 0), ("port", 6, 0), ("port", 1, 1)])

    def test_without_a_session(self):
        agent = Agent(3, 1)
        agent.turn(4, False)
        agent.turn(5, False)
        agent.turn(5, True)
        self.assertEqual((sorted(agent.living), agent.errors, agent.tick(1)), ([1, 2, 3, 5, 6], 0, []))
        agent.take(2, segment("hail", 1), 2)
        agent.take(2, segment("ack", 0), 2)
        self.assertEqual(agent.tick(2), [])

    def test_port_0(self):
        boss = Commander()
        for up in (True, False, True):
            boss.agent.turn(0, up)
        self.assertEqual((sorted(boss.agent.living), boss.told()), ([1, 2, 3, 4, 5, 6], []))


if __name__ == "__main__":
    unittest.main()
