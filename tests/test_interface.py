"""The names and arguments of the document's interface, and the kinds of values of its attributes."""

import ast
import importlib
import inspect
import unittest
from pathlib import Path

from hangbridge.agents import Agent
from hangbridge.brains import Brain
from hangbridge.cuts import Counting
from hangbridge.errors import BridgeError, CommandError, MisreadError, PolicyError, RoomError, StateError
from hangbridge.lanes import Lane
from hangbridge.nets import Net
from hangbridge.rollout import Rollout
from hangbridge.senders import Beat, Inbox, Sender
from hangbridge.sessions import Guest, Line
from hangbridge.stages import Stage
from hangbridge.tables import Table

PACKAGE = Path(__file__).resolve().parent.parent / "hangbridge"

FUNCTIONS = {
    "frames": ["check_number(text)", "number_of(word, most)", "write_frame(frame)", "read_frame(text)"],
    "orders": ["write_order(order)", "read_order(text)"],
    "graphs": ["check_graph(graph)", "is_end(count, end)", "link_of(one, other)", "peer(links, end)",
               "reached(links, switch)"],
    "tables": ["fits(match, port, header)", "done(outs, header)"],
    "trees": ["tree(links)", "way(parents, to)", "below(parents, switch)", "two_ways(links, to)"],
    "judging": ["judge(graph, policies, events)"],
    "script": ["run_script(text)"],
    "loads": ["load_of(flow)", "loads(flows)", "fits_rooms(rooms, flows)", "greatest_loads(flows, others)",
              "is_safe(rooms, flows, others)", "scaled_flows(flows, factor)", "even_steps(flows, others, count)",
              "settings(flows, others)", "plan(rooms, flows, others)", "layers(rooms, flows, others)",
              "layers_right(rooms, flows, others, rows)", "ways_of(flow, other)", "in_order(flows, others)"],
    "cuts": ["perform(net, deed)", "balance(cut)", "parted(graph, deeds)"],
    "policies": ["check(policy)", "test_holds(test, state)", "after(policy, state)",
                 "does(policy, switch, port, header)", "link_policy(graph)", "sets_field(policy, field)"],
    "classes": ["samples(policies)", "difference(policy, other)", "named_numbers(policies, field)", "all_states(rows)"],
    "compiling": ["fits(match, port, header)", "table_does(rules, port, header)", "rules_for(policy, switch)",
                  "table_difference(rules, other)", "shortened(rules)", "table_paper(rules)",
                  "paper_right(rules, paper)"],
    "policytexts": ["show_test(test)", "show_policy(policy)", "read_policy(text)"],
    "ways": ["other_end(graph, end)", "distances(graph, dead, to)", "next_port(graph, dead, switch, to)",
             "walk(graph, down, first, to)", "side_of(graph, dead, switch)",
             "cut_right(graph, down, first, to, dead, side)"],
    "asking": ["steps(policy, graph, place)", "next_places(policy, graph, place)", "reached(policy, graph, starts)",
               "way_to(policy, graph, starts, goal)", "closed_right(policy, graph, starts, goal, places)",
               "ring(policy, graph, starts)", "ranks(policy, graph, starts)",
               "ranks_right(policy, graph, starts, told)", "losses(policy, graph, starts)",
               "meeting(policy, other, graph, starts, others)"],
}
METHODS = {
    "lanes.Lane()": ["put(text)", "deliver()", "lose(at)", "double(at)", "hasten(at)", "clear()"],
    "senders.Sender()": ["put(body)", "fresh()", "again()", "heard(ack)"],
    "senders.Inbox()": ["take(number, body)"],
    "senders.Beat()": ["start(now)", "stop()", "hurry(now)", "runs()", "due(now)"],
    "sessions.Line(to)": ["begin(epoch, now)", "send(text)", "tick(now)", "take(segment, now)"],
    "sessions.Guest(own, boot)": ["send(text)", "tick(now)", "take(segment, now)"],
    "tables.Table()": ["count()", "wipe()", "drop(version)", "unlay(to)", "add(version, match, outs)", "lay(to, port)",
                       "retag(version, count)", "keep(version, count)", "strip()", "does(version, port, header)"],
    "agents.Agent(number, boot)": ["take(port, text, now)", "tick(now)", "turn(port, up)"],
    "seen.Seen()": ["links()", "see(end, other, now)", "lose(end)", "old(now, age)"],
    "stages.Stage(count)": ["offer(policy)", "settle()", "rules(version, switch)", "policy(version)"],
    "brains.Brain(count)": ["present()", "restarted()", "tick()", "hear(text)"],
    "nets.Net(graph)": ["tick()", "round()", "deliver(end)", "cut(link, down)", "reboot(switch)", "restart()",
                        "offer(policy)", "inject(switch, header)", "settled()"],
    "cuts.Counting(graph)": ["enter(switch, kind)", "leave(switch, kind)", "send(end, kind)", "deliver(end)",
                             "start(switch)", "is_done()", "cut()"],
    "rollout.Rollout(graph, old, new)": ["may(deed, switch)", "perform(deed, switch)", "has(switch, version)",
                                         "enter(switch, port, header)", "move(index)"],
}
GRAPH = ("graph", 2, [((1, 2), (2, 1))])
STOP = ("sum", [])


def defined(module):
    """Return the dict from the names of functions and classes that stand in a file to their nodes."""
    tree = ast.parse((PACKAGE / f"{module}.py").read_text(encoding="utf-8"))
    return {node.name: node for node in tree.body if isinstance(node, (ast.FunctionDef, ast.ClassDef))}


class Names(unittest.TestCase):
    def assertTakes(self, function, told):
        name, rest = told.rstrip(")").split("(")
        parameters = inspect.signature(function).parameters.values()
        self.assertEqual([parameter.name for parameter in parameters], rest.split(", ") if rest else [], told)
        # Each of them has to be passed, by position or by its name.
        for parameter in parameters:
            self.assertEqual((parameter.kind, parameter.default),
                             (parameter.POSITIONAL_OR_KEYWORD, parameter.empty), told)

    def test_functions(self):
        for module, rows in FUNCTIONS.items():
            nodes = defined(module)
            for told in rows:
                name = told.split("(")[0]
                self.assertIsInstance(nodes[name], ast.FunctionDef)
                self.assertTakes(getattr(importlib.import_module("hangbridge." + module), name), told)

    def test_classes(self):
        for told, methods in METHODS.items():
            module, rest = told.split(".")
            name = rest.split("(")[0]
            node = defined(module)[name]
            made = getattr(importlib.import_module("hangbridge." + module), name)
            self.assertTakes(made, rest)
            own = [child.name for child in node.body if isinstance(child, ast.FunctionDef)]
            for method in methods:
                self.assertIn(method.split("(")[0], own)
                self.assertTakes(getattr(made, method.split("(")[0]), method.replace("(", "(self, ").replace(", )", ")"))

    def test_errors(self):
        nodes = defined("errors")
        self.assertTrue(issubclass(BridgeError, ValueError))
        for error, name in ((RoomError, "place"), (StateError, "state"), (CommandError, "line"), (PolicyError, "way"),
                            (MisreadError, "at")):
            self.assertIn(error.__name__, nodes)
            self.assertEqual(error.__bases__, (BridgeError,))
            for told in (3, (1, 2), "x"):
                self.assertEqual(getattr(error(told), name), told)


class Attributes(unittest.TestCase):
    """What is set on each object when it is created, with its kind."""

    def assertAttributes(self, made, **kinds):
        for name, kind in kinds.items():
            self.assertIn(name, vars(made))
            self.assertIsInstance(getattr(made, name), kind)

    def test_kinds(self):
        self.assertAttributes(Lane(), frames=list)
        self.assertAttributes(Sender(), first=int, rows=list, said=int)
        self.assertAttributes(Inbox(), next=int)
        self.assertAttributes(Beat(), tries=int)
        self.assertAttributes(Line(1), epoch=int, boot=int, state=str)
        self.assertAttributes(Guest(1, 1), epoch=int, boot=int)
        self.assertAttributes(Table(), ways=dict, rules=dict, tag=int)
        self.assertAttributes(Agent(1, 1), table=Table, guest=Guest, living=dict, uplink=int, errors=int, dropped=int)
        self.assertAttributes(Stage(2), now=int, waits=int, taken=int)
        self.assertAttributes(Brain(2), now=int, epoch=int, stage=Stage, lines=dict, parents=dict, laid=dict, phase=str,
                              target=type(None))
        self.assertIn("seen", vars(Brain(2)))
        self.assertAttributes(Net(GRAPH), graph=tuple, brain=Brain, agents=dict, lanes=dict, cuts=dict, policies=dict,
                              events=list)
        self.assertAttributes(Counting(GRAPH), held=dict, came=dict, left=dict, lanes=dict)
        self.assertAttributes(Rollout(GRAPH, STOP, STOP), flying=list, told=list)


if __name__ == "__main__":
    unittest.main()
