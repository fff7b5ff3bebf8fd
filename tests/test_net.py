"""Nets: points 25 and 26."""

import unittest

from sharenet.canonical import canonical_text
from sharenet.errors import InvalidNet
from sharenet.net import PORTS, Net
from sharenet.rules import interact
from tests.nets import NetMaker, problems, wired

ROOT = ("root", 0, None)
ONE = ("num", 0, 1)
LAM = ("lam", 0, None)
APP = ("app", 0, None)
FAN = ("fan", 0, None)
WIRE = ((0, 0), (1, 0))
BETA = [ROOT, APP, LAM, ONE]
BETA_WIRES = [((0, 0), (1, 2)), ((1, 0), (2, 0)), ((1, 1), (3, 0)), ((2, 1), (2, 2))]


class Agents(unittest.TestCase):
    def accept(self, agent):
        """An agent at the root whose other ports are closed with fans and numbers."""
        agents, wires = [ROOT, agent], [((0, 0), (1, 0))]
        for port in range(1, PORTS[agent[0]]):
            agents.append(ONE)
            wires.append(((1, port), (port + 1, 0)))
        self.assertEqual(Net(agents, wires).agent(1), agent)

    def refuse(self, kind, level, data):
        agents, wires = [ROOT, (kind, level, data)], [((0, 0), (1, 0))]
        for port in range(1, PORTS.get(kind, 3)):
            agents.append(ONE)
            wires.append(((1, port), (port + 1, 0)))
        with self.subTest(kind=kind, level=level, data=data):
            self.assertRaises(InvalidNet, Net, agents, wires)

    def test_the_numbers_of_ports(self):
        self.assertEqual(PORTS, {"root": 1, "lam": 3, "app": 3, "fan": 3, "pair": 3, "split": 3, "num": 1, "op": 3,
                                 "op1": 2})

    def test_levels_of_every_kind(self):
        for level in (0, 1, 2, 100, 10 ** 20):
            for kind in ("lam", "app", "fan", "pair", "split"):
                self.accept((kind, level, None))
            self.accept(("op", level, "+"))
            self.accept(("op1", level, ("*", 5)))
        for level in (-1, -5, None, "0", "1", (0,), True, False, 0.0, 1.5):
            for kind in ("lam", "app", "fan", "pair", "split"):
                self.refuse(kind, level, None)
            self.refuse("op", level, "+")
            self.refuse("op1", level, ("*", 5))
            self.refuse("num", level, 1)
        self.refuse("num", 1, 1)

    def test_data_of_every_kind(self):
        for number in (0, 1, -1, 10 ** 50, -10 ** 50):
            self.accept(("num", 0, number))
            for sign in "+-*":
                self.accept(("op1", 0, (sign, number)))
        for sign in "+-*":
            self.accept(("op", 0, sign))
        for data in (0, 1, "+", (), ("+", 1), "None", False):
            for kind in ("lam", "app", "fan", "pair", "split"):
                self.refuse(kind, 0, data)
        for data in (None, "1", "+", (1,), ("+", 1), True, 1.0):
            self.refuse("num", 0, data)
        for data in (None, "", "/", "+-", " +", 1, ("+",), ("+", 1), ["+"], True):
            self.refuse("op", 0, data)
        for data in (None, "+", 1, (), ("+",), (1, "+"), ("+", "1"), ("+", None), ("/", 1), ("+", 1, 2), ["+", 1],
                     ("+", True), ("", 1), "+1", (None, 1)):
            self.refuse("op1", 0, data)

    def test_roots(self):
        for level, data in ((1, None), (-1, None), (None, None), (0, 0), (0, "root"), (0, ()), (True, None)):
            self.assertRaises(InvalidNet, Net, [("root", level, data), ONE], [WIRE])

    def test_other_kinds(self):
        for kind in ("Lam", "", "lam ", "op2", "var", "box", None, 0, ("lam",)):
            self.refuse(kind, 0, None)
        self.assertRaises(InvalidNet, Net, [ROOT, (["num"], 0, 1)], [WIRE])

    def test_agents_that_are_not_of_three_parts(self):
        for agent in (("num", 0), ("num", 0, 1, 2), ("num",), (), None, "num"):
            self.assertRaises(InvalidNet, Net, [ROOT, agent], [WIRE])


class Wires(unittest.TestCase):
    def refuse(self, wires, agents=None):
        with self.subTest(wires=wires):
            self.assertRaises(InvalidNet, Net, BETA if agents is None else agents, wires)

    def test_the_net_that_is_spoiled_below(self):
        self.assertEqual(canonical_text(Net(BETA, BETA_WIRES)), "root 1.2; app/0 2.0 3.0 0.0; lam/0 1.0 2.2 2.1; num=1 1.1")

    def test_a_wire_left_out(self):
        for at in range(len(BETA_WIRES)):
            self.refuse(BETA_WIRES[:at] + BETA_WIRES[at + 1:])
        self.refuse([])

    def test_a_wire_doubled(self):
        for wire in BETA_WIRES:
            self.refuse([*BETA_WIRES, wire])
            self.refuse([*BETA_WIRES, wire[::-1]])

    def test_a_port_with_two_wires(self):
        self.refuse([*BETA_WIRES, ((0, 0), (3, 0))])
        self.refuse([((0, 0), (1, 2)), ((1, 0), (2, 0)), ((1, 1), (2, 0)), ((2, 1), (2, 2)), ((3, 0), (3, 0))])
        self.refuse([((0, 0), (1, 2)), ((1, 0), (2, 0)), ((1, 1), (3, 0)), ((2, 1), (3, 0)), ((2, 2), (3, 0))])

    def test_a_wire_from_a_port_to_itself(self):
        self.refuse([((0, 0), (0, 0)), ((1, 2), (1, 2)), *BETA_WIRES[1:]])
        self.refuse([*BETA_WIRES[:2], ((1, 1), (1, 1)), ((3, 0), (3, 0)), BETA_WIRES[3]])
        self.refuse([*BETA_WIRES[:3], ((2, 1), (2, 1)), ((2, 2), (2, 2))])
        self.refuse([*BETA_WIRES, ((2, 1), (2, 1))])
        self.refuse([((0, 0), (0, 0))], [ROOT])

    def test_ports_that_do_not_exist(self):
        for port in ((1, 3), (1, -1), (3, 1), (0, 1), (2, 100), (0, -1)):
            self.refuse([*BETA_WIRES, (port, port)])
            self.refuse([*BETA_WIRES, (port, (2, 1))])
            self.refuse([*BETA_WIRES[:3], ((2, 1), port), ((2, 2), (2, 1))])
        self.refuse([*BETA_WIRES, ((0, 1), (1, 3))])
        self.refuse([((0, 0), (1, -1)), *BETA_WIRES[1:]])

    def test_agents_that_do_not_exist(self):
        for name in (4, -1, -4, 100):
            self.refuse([*BETA_WIRES, ((name, 0), (name, 1))])
            self.refuse([*BETA_WIRES[:2], ((1, 1), (name, 0)), BETA_WIRES[3]])
        self.refuse([((0, 0), (-3, 2)), ((-3, 0), (-2, 0)), ((-3, 1), (-1, 0)), ((-2, 1), (-2, 2))])

    def test_wires_that_are_not_pairs_of_ports(self):
        for wire in ((), ((0, 0),), ((0, 0), (1, 2), (1, 0)), (0, 1), ((0,), (1,)), ((0, 0), (1, 2, 0)), None,
                     ((0, 0), None), ((0, "0"), (1, 2)), (("0", 0), (1, 2)), ((False, 0), (True, 2))):
            self.refuse([wire, *BETA_WIRES[1:]])
            self.refuse([*BETA_WIRES, wire])

    def test_the_order_of_wires_and_of_their_ends_does_not_matter(self):
        wanted = canonical_text(Net(BETA, BETA_WIRES))
        self.assertEqual(canonical_text(Net(BETA, BETA_WIRES[::-1])), wanted)
        self.assertEqual(canonical_text(Net(BETA, [wire[::-1] for wire in BETA_WIRES])), wanted)


class Roots(unittest.TestCase):
    def test_no_root_and_two_roots(self):
        self.assertRaises(InvalidNet, Net, [], [])
        self.assertRaises(InvalidNet, Net, [ONE, ONE], [WIRE])
        self.assertRaises(InvalidNet, Net, [ROOT, ROOT], [WIRE])
        self.assertRaises(InvalidNet, Net, [ROOT, ROOT, ONE, ONE], [((0, 0), (2, 0)), ((1, 0), (3, 0))])
        self.assertRaises(InvalidNet, Net, [ROOT, ROOT, FAN, ONE],
                          [((0, 0), (2, 0)), ((1, 0), (2, 1)), ((2, 2), (3, 0))])

    def test_the_root_may_have_any_name(self):
        net = Net([ONE, ROOT], [WIRE])
        self.assertEqual(net.names(), [0, 1])
        self.assertEqual(net.agent(1), ROOT)
        self.assertEqual(net.pairs(), [])

    def test_agents_that_the_root_does_not_reach(self):
        self.assertRaises(InvalidNet, Net, [ROOT, ONE, ONE, ONE], [WIRE, ((2, 0), (3, 0))])
        self.assertRaises(InvalidNet, Net, [ROOT, ONE, LAM, ONE], [WIRE, ((2, 0), (3, 0)), ((2, 1), (2, 2))])
        self.assertRaises(InvalidNet, Net, [LAM, ONE, ONE, ROOT], [((0, 0), (1, 0)), ((0, 1), (0, 2)), ((2, 0), (3, 0))])

    def test_agents_that_the_root_reaches_through_any_ports(self):
        net = Net([ROOT, LAM, FAN, ONE, ONE, ONE],
                  [((0, 0), (1, 1)), ((1, 2), (2, 2)), ((2, 1), (3, 0)), ((2, 0), (4, 0)), ((1, 0), (5, 0))])
        self.assertEqual(len(net), 6)


class Methods(unittest.TestCase):
    def test_names_agents_and_peers(self):
        net = Net(BETA, BETA_WIRES)
        self.assertEqual(net.names(), [0, 1, 2, 3])
        self.assertEqual([net.agent(name) for name in range(4)], BETA)
        for one, other in BETA_WIRES:
            self.assertEqual(net.peer(*one), other)
            self.assertEqual(net.peer(*other), one)
        self.assertIsInstance(net.peer(0, 0), tuple)
        self.assertIsInstance(net.agent(0), tuple)
        self.assertEqual(len(net), 4)

    def test_active_pairs(self):
        self.assertEqual(Net(BETA, BETA_WIRES).pairs(), [(1, 2)])
        self.assertEqual(Net([ROOT, ONE], [WIRE]).pairs(), [])
        self.assertEqual(wired("root a; lam/0 a b b").pairs(), [])
        self.assertEqual(wired("root a; app/0 b c a; num=1 c; num=2 b").pairs(), [(1, 3)])
        self.assertEqual(wired("num=2 b; root a; app/0 b c a; num=1 c").pairs(), [(0, 2)])

    def test_active_pairs_of_every_kind_even_without_a_rule(self):
        for kind in PORTS:
            if kind in ("root", "num"):
                continue
            data = {"op": "=+", "op1": "=+1"}.get(kind, "")
            rest = ["r", "s"][:PORTS[kind] - 1]
            net = wired(f"root a; fan/0 b a {rest[0]}; {kind}/0{data} b {' '.join(rest)}"
                        + ("; num=1 s" if len(rest) == 2 else ""))
            self.assertEqual(net.pairs(), [(1, 2)])
        self.assertEqual(wired("root a; fan/0 b a c; num=1 b; num=2 c").pairs(), [(1, 2)])
        self.assertEqual(wired("root a; fan/0 c a b; lam/0 b d e; lam/0 c e d").pairs(), [(1, 3)])

    def test_a_principal_port_at_another_port_or_the_root_is_not_active(self):
        self.assertEqual(wired("root a; fan/0 b c a; fan/0 c b d; num=1 d").pairs(), [])
        self.assertEqual(wired("root a; fan/0 a b b").pairs(), [])

    def test_the_order_of_several_pairs(self):
        net = wired("root a; op/0=+ h b a; op/0=- e c b; op/0=* f d c; num=4 d; num=1 e; num=2 f; num=3 h")
        self.assertEqual(net.pairs(), [(1, 7), (2, 5), (3, 6)])
        net = wired("num=1 e; num=2 f; num=3 h; root a; op/0=+ h b a; op/0=- e c b; op/0=* f d c; num=4 d")
        self.assertEqual(net.pairs(), [(0, 5), (1, 6), (2, 4)])

    def test_made_nets(self):
        maker = NetMaker(40)
        for many in list(range(1, 20)) * 5:
            net = maker.net(many)
            self.assertEqual(problems(net), [])
            self.assertEqual(net.names(), list(range(len(net))))


class Copies(unittest.TestCase):
    def test_later_changes_of_the_lists_that_were_handed_in(self):
        agents, wires = list(BETA), list(BETA_WIRES)
        net = Net(agents, wires)
        agents[3] = ("num", 0, 7)
        agents.append(ONE)
        wires.clear()
        self.assertEqual(canonical_text(net), canonical_text(Net(BETA, BETA_WIRES)))
        self.assertEqual(len(net), 4)

    def test_the_lists_that_are_handed_in_are_not_changed(self):
        agents, wires = list(BETA), list(BETA_WIRES)
        interact(Net(agents, wires), (1, 2))
        self.assertEqual((agents, wires), (BETA, BETA_WIRES))

    def test_later_changes_of_the_lists_that_are_returned(self):
        net = Net(BETA, BETA_WIRES)
        net.names().clear()
        net.pairs().clear()
        net.pairs().append((0, 1))
        self.assertEqual(net.names(), [0, 1, 2, 3])
        self.assertEqual(net.pairs(), [(1, 2)])

    def test_changes_of_a_copy_and_of_the_net(self):
        net = Net(BETA, BETA_WIRES)
        copy = net.copied()
        self.assertIsInstance(copy, Net)
        self.assertIsNot(copy, net)
        interact(copy, (1, 2))
        self.assertEqual((net.names(), net.pairs(), len(net)), ([0, 1, 2, 3], [(1, 2)], 4))
        self.assertEqual((copy.names(), copy.pairs(), len(copy)), ([0, 3], [], 2))
        self.assertEqual(net.peer(0, 0), (1, 2))
        self.assertEqual(copy.peer(0, 0), (3, 0))
        another = net.copied()
        interact(net, (1, 2))
        self.assertEqual((another.names(), another.pairs()), ([0, 1, 2, 3], [(1, 2)]))
        self.assertEqual(another.peer(3, 0), (1, 1))

    def test_a_copy_of_a_changed_net(self):
        net = wired("root a; fan/0 b a c; op/0=+ c d e; num=7 e; num=5 d; num=1 b")
        interact(net, (1, 5))
        copy = net.copied()
        self.assertEqual(copy.names(), [0, 2, 3, 4, 6, 7])
        self.assertEqual([copy.agent(name) for name in copy.names()], [net.agent(name) for name in net.names()])
        self.assertEqual(copy.pairs(), net.pairs())
        self.assertEqual(canonical_text(copy), canonical_text(net))

    def test_a_copy_goes_on_with_the_same_new_names(self):
        net = wired("root a; op/0=* b c a; op/0=+ d e b; num=1 e; num=2 d; num=3 c")
        interact(net, (2, 4))
        self.assertEqual(net.names(), [0, 1, 3, 5, 6])
        copy = net.copied()
        for now in (net, copy):
            interact(now, (3, 6))
            self.assertEqual(now.names(), [0, 1, 5, 7])
            interact(now, (1, 7))
            self.assertEqual(now.names(), [0, 5, 8])
