"""Interactions of active pairs: points 26 and 29."""

import unittest

from sharenet.canonical import canonical_text
from sharenet.errors import InvalidStep
from sharenet.rules import interact, rule_of
from tests.nets import PORTS, NetMaker, interacted, plain, problems, rule_between, text_of, wired

KINDS = ["lam", "app", "fan", "pair", "split", "num", "op", "op1"]


def opposed(kind, level, other, height):
    """A net in which the agents 1 and 2 are an active pair; their other ports lead to numbers and to the root."""
    words = []
    for name, end, at in ((kind, "a", level), (other, "b", height)):
        head = {"num": "num=7", "op": f"op/{at}=-", "op1": f"op1/{at}=-2"}.get(name, f"{name}/{at}")
        words.append([head, "p", *[f"{end}{port}" for port in range(1, PORTS[name])]])
    open_ends = [word for part in words for word in part[2:]]
    parts = [f"root {open_ends[-1]}", *[" ".join(part) for part in words]]
    return wired("; ".join([*parts, *[f"num={number} {end}" for number, end in enumerate(open_ends[:-1])]]))


class Rules(unittest.TestCase):
    def test_every_two_kinds_with_equal_and_different_levels(self):
        for kind in KINDS:
            for other in KINDS:
                if kind == other == "num":
                    continue
                for level, height in ((0, 0), (3, 3), (0, 1), (1, 0), (2, 5), (5, 2)):
                    net = opposed(kind, level, other, height)
                    self.assertEqual(net.pairs()[0], (1, 2))
                    with self.subTest(canonical_text(net)):
                        self.assertEqual(rule_of(net, (1, 2)), self.expected(kind, level, other, height))
                        self.check_interaction(net, (1, 2))

    def expected(self, kind, level, other, height):
        if {kind, other} == {"lam", "app"}:
            return "beta" if level == height else None
        if {kind, other} == {"pair", "split"}:
            return "unpair" if level == height else None
        if kind == other == "fan":
            return "annihilate" if level == height else "duplicate"
        if "num" in (kind, other) and ("op" in (kind, other) or "op1" in (kind, other)):
            return "operate"
        if "fan" in (kind, other):
            low, high = (level, height) if kind == "fan" else (height, level)
            return "duplicate" if "num" in (kind, other) or high > low else None
        return None

    def check_interaction(self, net, pair):
        """Compare an interaction with the plain second version, names included."""
        agents, peers = plain(net)
        wanted = rule_between(agents, *pair)
        if wanted is None:
            self.assertIsNone(rule_of(net, pair))
            self.assertRaises(InvalidStep, interact, net, pair)
            self.assertEqual(plain(net), (agents, peers))
            return
        rule, agents, peers = interacted(agents, peers, pair, len(net))
        self.assertEqual(rule_of(net, pair), rule)
        self.assertEqual(interact(net, pair), rule)
        self.assertEqual(plain(net), (agents, peers))
        self.assertEqual(canonical_text(net), text_of(agents, peers))
        self.assertEqual(problems(net), [])

    def test_made_nets(self):
        maker, tried = NetMaker(70), {}
        for many in list(range(2, 14)) * 150:
            net = maker.net(many)
            for pair in net.pairs():
                rule = rule_of(net, pair)
                tried[rule] = tried.get(rule, 0) + 1
                self.check_interaction(net.copied(), pair)
        for rule in ("beta", "unpair", "annihilate", "duplicate", "operate", None):
            self.assertGreater(tried[rule], 10)

    def test_two_pairs_of_a_net_in_both_orders(self):
        maker, tried = NetMaker(71), 0
        for many in list(range(4, 16)) * 60:
            net = maker.net(many)
            able = [pair for pair in net.pairs() if rule_of(net, pair) is not None]
            for first in able:
                for second in able:
                    if first < second:
                        tried += 1
                        texts = [self.text_after(net, first, second), self.text_after(net, second, first)]
                        self.assertEqual(texts[0], texts[1])
        self.assertGreater(tried, 200)

    def text_after(self, net, first, second):
        net = net.copied()
        rule = rule_of(net, second)
        interact(net, first)
        self.assertIn(second, net.pairs())
        self.assertEqual(interact(net, second), rule)
        return canonical_text(net)


class Interactions(unittest.TestCase):
    def expect(self, before, pair, rule, after, names):
        net = wired(before)
        self.assertEqual(rule_of(net, pair), rule)
        self.assertEqual(canonical_text(net), canonical_text(wired(before)))
        self.assertEqual(interact(net, pair), rule)
        self.assertEqual(canonical_text(net), after)
        self.assertEqual(net.names(), names)
        self.assertEqual(problems(net), [])

    def test_beta(self):
        self.expect("root a; app/0 p b a; lam/0 p c d; num=1 b; op/0=+ c e d; num=2 e", (1, 2), "beta",
                    "root 1.2; op/0=+ 2.0 3.0 0.0; num=1 1.0; num=2 1.1", [0, 3, 4, 5])
        self.expect("root a; lam/4 p c c; app/4 p b a; num=1 b", (1, 2), "beta", "root 1.0; num=1 0.0", [0, 3])

    def test_beta_with_wires_between_ports_of_the_pair(self):
        # The result of the application is its own argument, which nothing uses.
        self.expect("root a; app/0 p b b; lam/0 p a c; num=1 c", (1, 2), "beta", "root 1.0; num=1 0.0", [0, 3])
        self.expect("root a; app/0 p b b; lam/0 p c a; num=1 c", (1, 2), "beta", "root 1.0; num=1 0.0", [0, 3])
        self.expect("root a; app/0 p b a; lam/0 p b c; num=1 c", (1, 2), "beta", "root 1.0; num=1 0.0", [0, 3])
        self.expect("root a; app/0 p a b; lam/0 p c b; num=1 c", (1, 2), "beta", "root 1.0; num=1 0.0", [0, 3])
        self.expect("root a; app/0 p a b; lam/0 p b c; num=1 c", (1, 2), "beta", "root 1.0; num=1 0.0", [0, 3])

    def test_a_pair_whose_ports_are_all_connected_with_one_another(self):
        for ends in ("x y; {} p y x", "x y; {} p x y", "x x; {} p y y"):
            for kind, other in (("app/0", "lam/0"), ("split/0", "pair/0"), ("fan/0", "fan/0")):
                # At first the root reaches the pair through the ports of another one.
                ports = ends.format(other).replace("y", "b", 1)
                net = wired(f"root a; split/0 q a b; pair/0 q c y; {kind} p {ports}; num=1 c")
                self.assertEqual(interact(net, (1, 2)), "unpair")
                self.assertEqual(net.pairs(), [(3, 4)])
                interact(net, (3, 4))
                self.assertEqual(net.names(), [0, 5])
                self.assertEqual(problems(net), [])

    def test_unpair(self):
        self.expect("root a; split/0 p a b; pair/0 p c d; num=1 c; op/0=+ d e b; num=2 e", (1, 2), "unpair",
                    "root 1.0; num=1 0.0", [0, 3, 4, 5])
        self.expect("root a; pair/2 p c d; split/2 p b a; num=1 c; num=2 d; num=3 b", (1, 2), "unpair",
                    "root 1.0; num=2 0.0", [0, 3, 4, 5])

    def test_annihilate(self):
        self.expect("root a; fan/0 p a b; fan/0 p c d; num=1 c; num=2 d; num=3 b", (1, 2), "annihilate",
                    "root 1.0; num=1 0.0", [0, 3, 4, 5])
        self.expect("root a; fan/3 p a b; fan/3 p b c; num=1 c", (1, 2), "annihilate", "root 1.0; num=1 0.0", [0, 3])

    def test_an_interaction_that_cuts_agents_off(self):
        self.expect("root a; split/0 p a b; pair/0 p c d; num=1 c; lam/0 d e f; fan/0 b e f", (1, 2), "unpair",
                    "root 1.0; num=1 0.0", [0, 3, 4, 5])

    def test_duplicate_a_number(self):
        self.expect("root a; pair/0 a b c; fan/5 p b c; num=-7 p", (2, 3), "duplicate",
                    "root 1.0; pair/0 0.0 2.0 3.0; num=-7 1.1; num=-7 1.2", [0, 1, 4, 5])

    def test_duplicate_agents_with_ports(self):
        self.expect("root a; pair/0 a b c; fan/0 p b c; lam/1 p d d", (2, 3), "duplicate",
                    "root 1.0; pair/0 0.0 2.0 3.0; lam/1 1.1 4.1 5.1; lam/1 1.2 4.2 5.2; fan/0 5.0 2.1 3.1; "
                    "fan/0 4.0 2.2 3.2", [0, 1, 4, 5, 6, 7])
        self.expect("root a; pair/0 a b c; fan/0 p b c; op/2=- p d e; num=1 d; num=2 e", (2, 3), "duplicate",
                    "root 1.0; pair/0 0.0 2.0 3.0; op/2=- 1.1 4.1 5.1; op/2=- 1.2 4.2 5.2; fan/0 6.0 2.1 3.1; "
                    "fan/0 7.0 2.2 3.2; num=1 4.0; num=2 5.0", [0, 1, 4, 5, 6, 7, 8, 9])
        self.expect("root a; pair/0 a b c; fan/3 p b c; op1/4=*-2 p d; num=1 d", (2, 3), "duplicate",
                    "root 1.0; pair/0 0.0 2.0 3.0; op1/4=*-2 1.1 4.1; op1/4=*-2 1.2 4.2; fan/3 5.0 2.1 3.1; num=1 4.0",
                    [0, 1, 4, 5, 6, 7])

    def test_duplicate_a_fan_of_a_greater_level(self):
        for text, pair in (("root a; pair/0 a b c; fan/0 p b c; fan/1 p d e; num=1 d; num=2 e", (2, 3)),
                           ("root a; pair/0 a b c; fan/1 p d e; fan/0 p b c; num=1 d; num=2 e", (2, 3))):
            self.expect(text, pair, "duplicate",
                        "root 1.0; pair/0 0.0 2.0 3.0; fan/1 1.1 4.1 5.1; fan/1 1.2 4.2 5.2; fan/0 6.0 2.1 3.1; "
                        "fan/0 7.0 2.2 3.2; num=1 4.0; num=2 5.0", [0, 1, 4, 5, 6, 7, 8, 9])

    def test_the_names_of_copies_and_new_fans(self):
        net = wired("root a; pair/0 a b c; fan/0 p b c; op/2=- p d e; num=1 d; num=2 e")
        interact(net, (2, 3))
        self.assertEqual(net.agent(6), ("op", 2, "-"))
        self.assertEqual(net.agent(7), ("op", 2, "-"))
        self.assertEqual(net.peer(6, 0), (1, 1))
        self.assertEqual(net.peer(7, 0), (1, 2))
        self.assertEqual([net.agent(name) for name in (8, 9)], [("fan", 0, None)] * 2)
        self.assertEqual([net.peer(8, port) for port in range(3)], [(4, 0), (6, 1), (7, 1)])
        self.assertEqual([net.peer(9, port) for port in range(3)], [(5, 0), (6, 2), (7, 2)])

    def test_duplicate_with_wires_between_the_ports_that_are_replaced(self):
        # The ports 1 and 2 of the fan are connected, so the two copies meet.
        self.expect("root a; lam/1 p a b; fan/0 p c c; num=1 b", (1, 2), "duplicate",
                    "root 1.0; fan/0 0.0 2.1 3.1; lam/1 3.0 1.1 4.1; lam/1 2.0 1.2 4.2; fan/0 5.0 2.2 3.2; num=1 4.0",
                    [0, 3, 4, 5, 6, 7])
        # A user of the fan is a port of what is copied.
        self.expect("root a; lam/1 p b c; fan/0 p a b; num=1 c", (1, 2), "duplicate",
                    "root 1.0; lam/1 0.0 2.1 3.1; fan/0 4.0 1.1 4.1; fan/0 5.0 1.2 4.2; lam/1 2.0 2.2 3.2; num=1 3.0",
                    [0, 3, 4, 5, 6, 7])
        # The other ports of what is copied are connected.
        self.expect("root a; pair/0 a b c; fan/0 p b c; fan/3 p d d", (2, 3), "duplicate",
                    "root 1.0; pair/0 0.0 2.0 3.0; fan/3 1.1 4.1 5.1; fan/3 1.2 4.2 5.2; fan/0 5.0 2.1 3.1; "
                    "fan/0 4.0 2.2 3.2", [0, 1, 4, 5, 6, 7])

    def test_new_pairs(self):
        net = wired("root a; lam/1 p a b; fan/0 p c c; num=1 b")
        interact(net, (1, 2))
        self.assertEqual(net.pairs(), [(3, 7), (4, 5)])
        net = wired("root a; app/0 b c a; fan/0 p b d; lam/1 p e f; num=1 c; op/0=+ e f d")
        interact(net, (2, 3))
        self.assertEqual(net.pairs(), [(1, 6), (5, 8)])

    def test_operate(self):
        for sign, result in (("+", 2), ("-", 12), ("*", -35)):
            self.expect(f"root a; op/3={sign} p b a; num=7 p; num=-5 b", (1, 2), "operate",
                        f"root 1.1; op1/3={sign}7 2.0 0.0; num=-5 1.0", [0, 3, 4])
            self.expect(f"root a; op1/3={sign}7 p a; num=-5 p", (1, 2), "operate", f"root 1.0; num={result} 0.0", [0, 3])
        self.expect("num=7 p; root a; op/2=- p b a; num=8 b", (0, 2), "operate",
                    "root 1.1; op1/2=-7 2.0 0.0; num=8 1.0", [1, 3, 4])

    def test_large_numbers(self):
        self.expect(f"root a; op1/0=*{10 ** 40} p a; num={-10 ** 40} p", (1, 2), "operate",
                    f"root 1.0; num={-10 ** 80} 0.0", [0, 3])

    def test_operate_with_the_second_operand_at_the_result(self):
        net = wired("root a; split/0 p a b; pair/0 p c d; num=5 c; lam/0 r b d; app/0 r s t; op/0=- q s t; num=7 q")
        self.assertEqual(interact(net, (4, 5)), "beta")
        self.assertEqual(interact(net, (1, 2)), "unpair")
        self.assertEqual(net.names(), [0, 3, 6, 7])
        self.assertEqual(net.peer(6, 1), (6, 2))
        self.assertEqual(interact(net, (6, 7)), "operate")
        self.assertEqual(net.names(), [0, 3, 8])
        self.assertEqual([net.peer(8, port) for port in (0, 1)], [(8, 1), (8, 0)])
        self.assertEqual(problems(net), [])

    def test_names_after_earlier_interactions(self):
        net = wired("root a; op/0=* b c a; op/0=+ d e b; num=1 e; num=2 d; num=3 c")
        self.assertEqual(interact(net, (2, 4)), "operate")
        self.assertEqual(net.names(), [0, 1, 3, 5, 6])
        self.assertEqual(interact(net, (3, 6)), "operate")
        self.assertEqual(net.names(), [0, 1, 5, 7])
        self.assertEqual(net.agent(7), ("num", 0, 3))
        self.assertEqual(interact(net, (1, 7)), "operate")
        self.assertEqual(interact(net, (5, 8)), "operate")
        self.assertEqual(net.names(), [0, 9])
        self.assertEqual(net.agent(9), ("num", 0, 9))

    def test_names_of_removed_agents_are_not_used_again(self):
        net = wired("root a; app/0 p b a; lam/0 p c d; fan/0 c e f; op/0=+ e f d; num=4 b")
        interact(net, (1, 2))
        self.assertEqual(net.names(), [0, 3, 4, 5])
        self.assertEqual(net.pairs(), [(3, 5)])
        interact(net, (3, 5))
        self.assertEqual(net.names(), [0, 4, 6, 7])
        interact(net, (4, 6))
        self.assertEqual(net.names(), [0, 7, 8])
        self.assertEqual(net.agent(8), ("op1", 0, ("+", 4)))


class WrongPairs(unittest.TestCase):
    TEXT = "root a; app/0 p b a; lam/0 p c d; num=1 b; op/0=+ q e d; num=2 e; fan/0 c q f; num=3 f"

    def refuse(self, net, *pairs):
        before = plain(net)
        for pair in pairs:
            with self.subTest(pair=pair):
                self.assertRaises(InvalidStep, rule_of, net, pair)
                self.assertRaises(InvalidStep, interact, net, pair)
        self.assertEqual(plain(net), before)

    def test_pairs_that_are_not_active(self):
        net = wired(self.TEXT)
        self.assertEqual(net.pairs(), [(1, 2)])
        self.refuse(net, (2, 1), (1, 1), (2, 2), (0, 1), (1, 0), (0, 2), (1, 3), (2, 4), (4, 6), (6, 4), (3, 5), (0, 0))

    def test_names_that_do_not_exist(self):
        self.refuse(wired(self.TEXT), (1, 8), (8, 9), (-1, 2), (1, -6), (-7, -6), (100, 200), (2, 100))

    def test_the_root_is_in_no_pair(self):
        self.refuse(wired("root a; num=1 a"), (0, 1), (1, 0))
        self.refuse(wired("num=1 a; root a"), (0, 1), (1, 0))

    def test_names_of_removed_agents(self):
        net = wired(self.TEXT)
        interact(net, (1, 2))
        self.refuse(net, (1, 2), (1, 3), (2, 6))
        self.assertEqual(net.pairs(), [(3, 6)])

    def test_pairs_without_a_rule(self):
        for kind, level, other, height in (("lam", 0, "app", 1), ("lam", 0, "lam", 0), ("app", 0, "app", 0),
                                           ("pair", 1, "split", 0), ("pair", 0, "app", 0), ("num", 0, "app", 0),
                                           ("lam", 0, "num", 0), ("fan", 1, "lam", 1), ("fan", 2, "pair", 1),
                                           ("op", 0, "op", 0), ("op", 0, "op1", 0), ("split", 0, "num", 0)):
            net = opposed(kind, level, other, height)
            before = plain(net)
            self.assertIsNone(rule_of(net, (1, 2)))
            self.assertRaises(InvalidStep, interact, net, (1, 2))
            self.assertRaises(InvalidStep, interact, net, (2, 1))
            self.assertEqual(plain(net), before)
            self.assertEqual(net.pairs()[0], (1, 2))

    def test_two_numbers(self):
        net = wired("root a; fan/0 p a b; fan/0 p c d; num=1 c; num=2 d; num=3 b")
        interact(net, (1, 2))
        self.assertEqual(net.pairs(), [(4, 5)])
        self.assertIsNone(rule_of(net, (4, 5)))
        self.assertRaises(InvalidStep, interact, net, (4, 5))

    def test_a_refused_pair_uses_no_names(self):
        net = wired("root a; op/0=+ b c a; fan/1 p b d; lam/0 p e e; op1/0=+5 q d; num=3 q; num=4 c")
        for pair in ((2, 3), (3, 2), (5, 4), (0, 1)):
            self.assertRaises(InvalidStep, interact, net, pair)
        interact(net, (4, 5))
        self.assertEqual(net.names(), [0, 1, 2, 3, 6, 7])
