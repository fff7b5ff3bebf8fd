"""Rounds and depths: points 53 to 55."""

import random
import unittest

from sharenet.building import net_of
from sharenet.canonical import same_net
from sharenet.errors import InvalidStep, TooLong
from sharenet.reader import read_term
from sharenet.rounds import depths_of, run_rounds
from sharenet.rules import interact, rule_of
from sharenet.running import run_net
from tests.nets import NetMaker, interacted, plain, rule_between, wired
from tests.sharing import doubled, made

LAST = [-1] * 3000


def net_from(text):
    return net_of(read_term(text))


def slow_rounds(net):
    """The rounds of a copy of a net."""
    net, sizes = net.copied(), []
    while net.pairs():
        pairs = net.pairs()
        for pair in pairs:
            interact(net, pair)
        sizes.append(len(pairs))
    return sizes


class SlowDepths:
    """Depths by the words of point 54; times is a dict from sets of two ports to times."""

    def __init__(self, net):
        self.agents, self.peers = plain(net)
        self.times = {self.wire(port): 0 for port in self.peers}
        self.fresh = max(net.names()) + 1

    def wire(self, port):
        return frozenset([port, self.peers[port]])

    def interact(self, pair):
        """The depth of an interaction."""
        rule, first, second = rule_between(self.agents, *pair)
        depth = 1 + self.times[self.wire((first, 0))]
        old, times = self.peers, self.times
        _, self.agents, self.peers = interacted(self.agents, old, pair, self.fresh)
        self.times = {}
        for port, peer in self.peers.items():
            if old.get(port) == peer:
                self.times[self.wire(port)] = times[self.wire(port)]
            elif rule in ("beta", "unpair", "annihilate"):
                way = [frozenset(step) for step in self.way(old, first, second, port)]
                self.times[self.wire(port)] = max([depth, *[times[wire] for wire in way]])
            else:
                ends = self.replaced(rule, first, second, port) + self.replaced(rule, first, second, peer)
                self.times[self.wire(port)] = max([depth, *[times[frozenset([end, old[end]])] for end in ends]])
        self.fresh = max([self.fresh, *[name + 1 for name in self.agents]])
        return depth

    def way(self, old, first, second, port):
        """The old wires by which one goes from a port, where the ports of the two agents are joined."""
        steps = [(port, old[port])]
        while steps[-1][1][0] in (first, second):
            name, number = steps[-1][1]
            joined = (second if name == first else first, number)
            steps.append((joined, old[joined]))
        return steps

    def replaced(self, rule, first, second, port):
        """The port of the two agents whose place a port has taken, in a list, or none."""
        name, number = port
        if name < self.fresh:
            return []
        if rule == "operate":
            return [(second, number + 1)]
        if name - self.fresh < 2:
            return [(first, name - self.fresh + 1)] if number == 0 else []
        return [(second, name - self.fresh - 1)] if number == 0 else []


def slow_depths(net, choices):
    net = net.copied()
    slow, found = SlowDepths(net), []
    while net.pairs():
        choice = choices[len(found)] if len(found) < len(choices) else 0
        pair = net.pairs()[choice % len(net.pairs())]
        found.append(slow.interact(pair))
        interact(net, pair)
    return found


class Rounds(unittest.TestCase):
    def expect(self, text, sizes):
        net, end = net_from(text), net_from(text)
        found = run_rounds(net)
        self.assertEqual(found, sizes)
        self.assertIsInstance(found, list)
        self.assertEqual(net.pairs(), [])
        run_net(end)
        self.assertTrue(same_net(net, end))
        depths = depths_of(net_from(text))
        self.assertEqual([depths.count(depth + 1) for depth in range(len(sizes))], sizes)
        self.assertEqual(len(depths), sum(sizes))

    def test_rounds(self):
        self.expect("5", [])
        self.expect("\\x:Int. x + 1", [])
        self.expect("(\\x:Int. x) 5", [1])
        self.expect("1 + 2", [1, 1])
        self.expect("(1 + 2, 3 * 4)", [2, 2])
        self.expect("1 + 2 * 3", [2, 1, 1])
        self.expect("((1 + 2) * 3, (4 + 5, 6))", [2, 2, 1, 1])
        self.expect("let f = !(\\x:Int. x) in !(f (f 1))", [1, 3])
        self.expect("let (x, y) = (1 + 2, 3) in (y, x)", [2, 1])
        self.expect("let v = !((\\x:Int. x) 1) in !(v + v)", [1, 1, 1, 1])

    def test_a_pair_that_comes_to_be_in_a_round_waits_for_the_next_one(self):
        net = wired("root a; pair/0 a b c; op1/0=+1 d b; num=2 d; op1/0=+5 e g; op1/0=*3 f e; num=4 f; op1/0=-1 g c")
        self.assertEqual(net.pairs(), [(2, 3), (5, 6)])
        copy = net.copied()
        self.assertEqual(run_rounds(net), [2, 1, 1])
        self.assertRaises(TooLong, run_rounds, copy, most=2)
        self.assertEqual(copy.names(), [0, 1, 4, 7, 8, 9])
        self.assertEqual(copy.pairs(), [(4, 9)])

    def test_pairs_of_a_round_interact_ascending(self):
        net = wired("root a; pair/0 a b c; op1/0=+1 d b; num=2 d; op1/0=+1 e c; num=4 e")
        run_rounds(net)
        self.assertEqual([net.agent(name) for name in net.names()[2:]], [("num", 0, 3), ("num", 0, 5)])
        self.assertEqual(net.peer(1, 1), (6, 0))

    def test_made_terms(self):
        for term in made(60) + [doubled(5)]:
            net = net_of(term)
            end = net.copied()
            counts = run_net(end)
            wanted = slow_rounds(net)
            found = run_rounds(net)
            self.assertEqual(found, wanted)
            self.assertEqual(sum(found), sum(counts))
            self.assertTrue(same_net(net, end))

    def test_most(self):
        for text, sizes in (("(1 + 2, 3 * 4)", [2, 2]), ("((1 + 2) * 3, (4 + 5, 6))", [2, 2, 1, 1]), ("5", [])):
            for most in range(sum(sizes) + 2):
                net, slow = net_from(text), net_from(text)
                if most >= sum(sizes):
                    self.assertEqual(run_rounds(net, most=most), sizes)
                    continue
                self.assertRaises(TooLong, run_rounds, net, most=most)
                # The rounds that fit into `most` have been made, and the next one has not.
                many = 0
                while many + len(slow.pairs()) <= most:
                    many += len(slow.pairs())
                    for pair in slow.pairs():
                        interact(slow, pair)
                self.assertEqual(plain(net), plain(slow))
                self.assertEqual(sum(run_rounds(net)), sum(sizes) - many)

    def test_the_default(self):
        total = ("num", 0)
        for _ in range(5001):
            total = ("op", "+", total, ("num", 1))
        net = net_of(total)
        self.assertRaises(TooLong, run_rounds, net)
        self.assertEqual(run_rounds(net), [1, 1])

    def test_pairs_without_a_rule(self):
        net = wired("root a; app/1 p b a; lam/0 p c c; op1/0=+1 q b; num=2 q")
        before = plain(net)
        self.assertRaises(InvalidStep, run_rounds, net)
        self.assertRaises(InvalidStep, run_rounds, net, most=0)
        self.assertEqual(plain(net), before)
        net = wired("root a; op/0=+ p b a; op1/0=+1 q p; num=2 q; lam/0 b c c")
        self.assertRaises(InvalidStep, run_rounds, net)
        self.assertEqual(net.names(), [0, 4, 6])
        self.assertEqual(net.agent(6), ("op1", 0, ("+", 3)))

    def test_names_are_needed(self):
        with self.assertRaises(TypeError):
            run_rounds(net_from("1"), 5)
        with self.assertRaises(TypeError):
            depths_of(net_from("1"), [])


class Depths(unittest.TestCase):
    def expect(self, text, depths, choices=()):
        net = wired(text) if text.startswith("root") else net_from(text)
        end = net.copied()
        wanted = slow_depths(net, choices)
        found = depths_of(net, choices=choices)
        self.assertEqual(found, depths)
        self.assertIsInstance(found, list)
        self.assertEqual(found, wanted)
        run_net(end, choices=choices)
        self.assertEqual(plain(net), plain(end))

    def test_depths(self):
        self.expect("5", [])
        self.expect("(\\x:Int. x) 5", [1])
        self.expect("1 + 2", [1, 2])
        self.expect("(1 + 2, 3 * 4)", [1, 2, 1, 2])
        self.expect("(1 + 2, 3 * 4)", [1, 1, 2, 2], [0, -1, 0, 0])
        self.expect("let f = !(\\x:Int. x) in !(f (f 1))", [1, 2, 2, 2])
        self.expect("let (x, y) = (1, 2) in x - y", [1, 2, 3])

    def test_a_pair_that_waits_keeps_its_depth(self):
        # The second sum is made first, and the first sum has the depth 1 all the same.
        self.expect("(1 + 2) - (3 * 4)", [1, 2, 1, 2, 3, 4], [1, 1])
        self.expect("(1 + 2) - (3 * 4)", [1, 1, 2, 2, 3, 4], [1, 0, 1, 0])

    def test_joined_wires_have_the_greatest_time_of_both(self):
        # The argument and the body have depths of their own when they are joined with the variable and the result.
        self.expect("((\\x:Int. x) (1 + 2)) * 4", [1, 1, 2, 3, 4])
        self.expect("((\\x:Int. x) (1 + 2)) * 4", [1, 2, 1, 3, 4], [1, 1])
        self.expect("root a; app/0 p b a; lam/0 p c c; op1/0=+1 d b; op1/0=+1 e d; num=3 e", [1, 2, 1], [1, 1, 0])

    def test_ports_of_the_same_removed_agent(self):
        self.expect("root a; app/0 p b a; lam/0 p c c; num=1 b", [1])
        # The result of the identity is the function of the next application, so its time shows.
        self.expect("(\\f:Int -> Int. f) (\\x:Int. x) 7", [1, 2])
        self.expect("root a; fan/3 p a b; fan/3 p b c; op1/0=+1 d c; num=1 d", [1, 1], [1])
        self.expect("root a; lam/0 a b c; fan/1 p b c; fan/0 p d d", [1, 2])

    def test_ports_of_both_removed_agents(self):
        self.expect("root a; op1/0=+1 b a; app/0 p c b; lam/0 p c d; op1/0=+1 e d; num=5 e", [1, 1, 2], [1])
        text = "root a; op1/0=+1 x a; split/0 q x y; pair/0 q z y; op1/0=*2 w z; num=5 w"
        self.expect(text, [1, 1, 2])
        self.expect(text, [1, 1, 2], [1])

    def test_both_ends_of_a_wire_replaced(self):
        self.expect("root a; pair/0 a b c; fan/0 p b c; fan/3 p d d", [1, 2])
        self.expect("root a; pair/0 a b c; fan/0 p b c; lam/1 p d d", [1, 2])
        self.expect("root a; pair/0 a b c; fan/0 q b c; app/1 r q s; lam/1 r s t; lam/1 t u u", [1, 2, 3])

    def test_drawn_orders(self):
        choices = random.Random(160)
        for term in made(40) + [doubled(3)]:
            net = net_of(term)
            rounds = slow_rounds(net)
            for chosen in ((), LAST, [choices.randrange(-500, 500) for _ in range(sum(rounds))], tuple(LAST[:5])):
                copy, end = net.copied(), net.copied()
                depths = depths_of(copy, choices=chosen)
                self.assertEqual(depths, slow_depths(net, chosen))
                self.assertEqual([depths.count(depth + 1) for depth in range(len(rounds))], rounds)
                self.assertEqual(max(depths, default=0), len(rounds))
                run_net(end, choices=chosen)
                self.assertEqual(plain(copy), plain(end))

    def test_made_nets(self):
        maker, tried = NetMaker(161), 0
        for many in list(range(3, 14)) * 60:
            net = maker.net(many)
            end = net.copied()
            for _ in range(15):
                if end.pairs() and rule_of(end, end.pairs()[-1]) is not None:
                    interact(end, end.pairs()[-1])
            if end.pairs():
                continue
            tried += 1
            wanted = slow_depths(net, LAST)
            self.assertEqual(depths_of(net, choices=LAST), wanted)
            self.assertEqual(plain(net), plain(end))
        self.assertGreater(tried, 50)

    def test_most(self):
        for text, steps in (("(1 + 2, 3 * 4)", 4), ("let f = !(\\x:Int. x) in !(f (f 1))", 4), ("5", 0)):
            wanted = depths_of(net_from(text))
            self.assertEqual(depths_of(net_from(text), most=steps), wanted)
            for most in range(steps):
                net, slow = net_from(text), net_from(text)
                self.assertRaises(TooLong, depths_of, net, most=most, choices=LAST)
                self.assertRaises(TooLong, run_net, slow, most=most, choices=LAST)
                self.assertEqual(plain(net), plain(slow))

    def test_the_default(self):
        total = ("num", 0)
        for _ in range(5001):
            total = ("op", "+", total, ("num", 1))
        net = net_of(total)
        self.assertRaises(TooLong, depths_of, net)
        self.assertEqual(depths_of(net), [1, 2])

    def test_pairs_without_a_rule(self):
        net = wired("root a; app/1 p b a; lam/0 p c c; op1/0=+1 q b; num=2 q")
        before = plain(net)
        self.assertRaises(InvalidStep, depths_of, net)
        self.assertEqual(plain(net), before)
        self.assertRaises(InvalidStep, depths_of, net, choices=[1])
        self.assertEqual(net.names(), [0, 1, 2, 5])
