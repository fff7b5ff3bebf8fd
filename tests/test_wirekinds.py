"""Kinds of wires: points 46 and 47."""

import random
import unittest

from sharenet.building import net_of
from sharenet.checking import check_term
from sharenet.kinds import kind_text
from sharenet.reader import read_kind, read_term
from sharenet.rules import interact, rule_of
from sharenet.wirekinds import net_fits, plain_kind
from sharenet.writer import write_term
from tests.nets import NetMaker, plain, wired
from tests.sharing import doubled, made

INT = ("int",)


def all_kinds(depth):
    """All plain kinds of so small a depth."""
    if depth == 0:
        return [INT]
    less = all_kinds(depth - 1)
    return [INT] + [(form, a, b) for form in ("fun", "pair") for a in less for b in less]


class Unfit(Exception):
    pass


class SlowKinds:
    """Kinds with unknowns ("?", wire), which are replaced step by step."""

    def __init__(self, net, kind):
        agents, self.peers = plain(net)
        self.known = {}
        for name, (form, _, _) in agents.items():
            wires = [self.wire((name, port)) for port in range(3) if (name, port) in self.peers]
            if form == "root":
                self.equal(wires[0], kind)
            elif form in ("lam", "app"):
                self.equal(wires[0], ("fun", wires[1], wires[2]))
            elif form in ("pair", "split"):
                self.equal(wires[0], ("pair", wires[1], wires[2]))
            elif form == "fan":
                self.equal(wires[0], wires[1])
                self.equal(wires[0], wires[2])
            else:
                for wire in wires:
                    self.equal(wire, INT)

    def wire(self, port):
        return ("?", *min(port, self.peers[port]))

    def seen(self, kind):
        while kind[0] == "?" and kind in self.known:
            kind = self.known[kind]
        return kind

    def contains(self, kind, unknown):
        kind = self.seen(kind)
        return kind == unknown or kind[0] in ("fun", "pair") and any(self.contains(part, unknown) for part in kind[1:])

    def equal(self, one, other):
        one, other = self.seen(one), self.seen(other)
        if one == other:
            return
        if other[0] == "?":
            one, other = other, one
        if one[0] == "?":
            if self.contains(other, one):
                raise Unfit()
            self.known[one] = other
            return
        if one[0] != other[0]:
            raise Unfit()
        for a, b in zip(one[1:], other[1:]):
            self.equal(a, b)


def slow_fits(net, kind):
    try:
        SlowKinds(net, kind)
        return True
    except Unfit:
        return False


class PlainKinds(unittest.TestCase):
    def test_boxes_are_left_out(self):
        for text, wanted in (("Int", "Int"), ("!Int", "Int"), ("!!!Int", "Int"), ("Int -> Int", "Int -> Int"),
                             ("!(Int -> !Int)", "Int -> Int"), ("(!Int, (Int, !!Int))", "(Int, (Int, Int))"),
                             ("!(!Int -> Int) -> !(Int, !Int)", "(Int -> Int) -> (Int, Int)"),
                             ("!!(!(!Int, Int) -> !Int) -> Int", "((Int, Int) -> Int) -> Int")):
            found = plain_kind(read_kind(text))
            self.assertEqual(kind_text(found), wanted)
            self.assertEqual(found, read_kind(wanted))
            self.assertEqual(plain_kind(found), found)

    def test_deep_kinds(self):
        kind = ("bang", INT)
        for _ in range(5000):
            kind = ("bang", ("fun", INT, ("bang", kind)))
        found = plain_kind(kind)
        for _ in range(5000):
            self.assertEqual(found[:2], ("fun", INT))
            found = found[2]
        self.assertEqual(found, INT)


class Fits(unittest.TestCase):
    def expect(self, text, *fitting):
        """The plain kinds of a small depth that a net fits."""
        net = wired(text) if text.startswith("root") else net_of(read_term(text))
        before = plain(net)
        wanted = [read_kind(kind) for kind in fitting]
        for kind in all_kinds(2):
            self.assertIs(net_fits(net, kind), kind in wanted, (text, kind_text(kind)))
            self.assertEqual(slow_fits(net, kind), kind in wanted)
        self.assertEqual(plain(net), before)

    def test_nets_of_terms_that_fit_one_kind(self):
        self.expect("5", "Int")
        self.expect("1 - 2", "Int")
        self.expect("(1, 2)", "(Int, Int)")
        self.expect("\\x:Int. x + 1", "Int -> Int")
        self.expect("let x = !7 in !(x * x)", "Int")
        self.expect("\\x:Int. let y = x in y * y", "Int -> Int")
        self.expect("\\p:(Int, Int). let (a, b) = p in a + b", "(Int, Int) -> Int")
        self.expect("(\\x:Int. (x, 1)) 2", "(Int, Int)")
        self.expect("\\f:Int -> Int. f 1 + 2", "(Int -> Int) -> Int")

    def test_nets_that_fit_several_kinds(self):
        self.expect("\\x:Int. x", *[f"{kind_text(a)} -> {kind_text(a)}" if a == INT else f"({kind_text(a)}) -> {kind_text(a)}"
                                    for a in all_kinds(1)])
        net = net_of(read_term("\\p:(Int, Int). let (a, b) = p in (b, a)"))
        for text, fits in (("(Int, Int) -> (Int, Int)", True), ("(Int, Int -> Int) -> (Int -> Int, Int)", True),
                           ("(Int, Int -> Int) -> (Int, Int -> Int)", False), ("Int -> (Int, Int)", False),
                           ("((Int, Int), Int) -> (Int, (Int, Int))", True), ("(Int, Int)", False)):
            self.assertIs(net_fits(net, read_kind(text)), fits)

    def test_every_kind_of_agent(self):
        self.expect("root a; lam/0 a b b", *[kind_text(("fun", a, a)) for a in all_kinds(1)])
        self.expect("root a; lam/3 a b c; op/0=+ b d c; num=1 d", "Int -> Int")
        self.expect("root a; pair/0 a b c; num=1 b; num=2 c", "(Int, Int)")
        self.expect("root a; pair/0 a b b", *[kind_text(("pair", a, a)) for a in all_kinds(1)])
        self.expect("root a; split/0 a b c; num=1 b; num=2 c", "(Int, Int)")
        self.expect("root a; split/0 b a c; pair/0 b d e; num=1 d; num=2 e; num=3 c", "Int")
        self.expect("root a; app/0 a b c; num=1 b; num=2 c", "Int -> Int")
        self.expect("root a; app/0 b c a; lam/0 b d d; num=1 c", "Int")
        self.expect("root a; fan/0 a b c; num=1 b; num=2 c", "Int")
        self.expect("root a; fan/0 b a c; lam/0 b d d; num=1 c")
        self.expect("root a; op/0=* a b c; num=1 b; num=2 c", "Int")
        self.expect("root a; op/0=* b c a; num=1 b; num=2 c", "Int")
        self.expect("root a; op1/0=*3 b a; num=1 b", "Int")
        self.expect("root a; op1/0=*3 a b; num=1 b", "Int")
        self.expect("root a; num=-4 a", "Int")
        self.expect("root a; lam/0 a b c; fan/0 b d d; op1/0=-1 e c; num=1 e",
                    *[kind_text(("fun", a, INT)) for a in all_kinds(1)])
        self.expect("root a; fan/0 a b b", *[kind_text(kind) for kind in all_kinds(2)])

    def test_nets_that_fit_no_kind(self):
        self.expect("root a; app/0 b c a; num=1 b; num=2 c")
        self.expect("root a; split/0 b a c; lam/0 b d d; num=1 c")
        self.expect("root a; op/0=+ b c a; lam/0 b d d; num=2 c")
        self.expect("root a; op/0=+ b c a; num=2 b; pair/0 c d d")
        self.expect("root a; op1/0=+1 b a; pair/0 b d d")

    def test_kinds_that_would_contain_themselves(self):
        self.expect("root a; lam/0 a b c; app/0 d e c; fan/0 b d e")
        self.expect("root a; lam/0 b b a")
        self.expect("root a; lam/0 b a b")
        self.expect("root a; pair/0 b b a")
        self.expect("root a; app/0 b a b")
        self.expect("root a; fan/0 b c a; pair/0 b d c; num=1 d")
        # The kinds go around over two agents, away from the root.
        self.expect("root a; pair/0 a b c; num=1 b; lam/0 d c f; pair/0 f g d; num=2 g")
        self.expect("root a; lam/0 a b c; fan/0 b d e; app/0 d e f; op1/0=+1 f c")

    def test_agents_that_are_cut_off_have_wires_too(self):
        net = wired("root a; split/0 p a b; pair/0 p c d; num=1 c; pair/0 d e f; fan/0 b e f")
        self.assertFalse(net_fits(net, INT))
        interact(net, (1, 2))
        self.assertFalse(net_fits(net, INT))
        net = wired("root a; split/0 p a b; pair/0 p c d; num=1 c; fan/0 d e f; fan/0 b e f")
        self.assertTrue(net_fits(net, INT))
        interact(net, (1, 2))
        self.assertTrue(net_fits(net, INT))

    def test_kinds_with_boxes_are_not_plain(self):
        net = net_of(read_term("\\x:!Int. x"))
        self.assertTrue(net_fits(net, read_kind("Int -> Int")))
        self.assertFalse(net_fits(net, read_kind("!Int -> !Int")))

    def test_deep_kinds(self):
        term, kind = ("num", 0), INT
        for _ in range(900):
            term, kind = ("pair", term, ("num", 1)), ("pair", kind, INT)
        self.assertTrue(net_fits(net_of(term), kind))
        self.assertFalse(net_fits(net_of(term), kind[1]))
        self.assertFalse(net_fits(net_of(term), ("pair", kind, INT)))

    def test_kinds_that_are_much_larger_than_the_net(self):
        # The kinds double with each pair, but their classes do not.
        text, last = "root a0", 30
        for at in range(last):
            text += f"; pair/0 a{at} b{at} c{at}; fan/0 a{at + 1} b{at} c{at}"
        net = wired(text + f"; num=1 a{last}")
        self.assertFalse(net_fits(net, INT))


class Terms(unittest.TestCase):
    def test_before_and_after_every_interaction(self):
        choices = random.Random(150)
        for term in made(40) + [doubled(3)]:
            kind = plain_kind(check_term(term))
            others = [other for other in (INT, ("fun", INT, INT), ("pair", kind, INT), ("fun", INT, kind)) if other != kind]
            net = net_of(term)
            with self.subTest(write_term(term)):
                self.assertIs(net_fits(net, kind), True)
                wrong = [other for other in others if net_fits(net, other)]
                self.assertEqual(wrong, [other for other in others if slow_fits(net, other)])
                while net.pairs():
                    interact(net, choices.choice(net.pairs()))
                    self.assertIs(net_fits(net, kind), True)
                    for other in wrong:
                        self.assertIs(net_fits(net, other), True)

    def test_made_nets(self):
        maker, found = NetMaker(151), {True: 0, False: 0}
        kinds = all_kinds(1) + [("fun", ("fun", INT, INT), INT), ("pair", INT, ("pair", INT, INT))]
        for many in list(range(1, 9)) * 80:
            net = maker.net(many)
            fitting = [kind for kind in kinds if net_fits(net, kind)]
            self.assertEqual(fitting, [kind for kind in kinds if slow_fits(net, kind)])
            found[fitting != []] += 1
            for pair in net.pairs():
                if rule_of(net, pair) is not None:
                    after = net.copied()
                    interact(after, pair)
                    for kind in fitting:
                        self.assertTrue(net_fits(after, kind))
        self.assertGreater(min(found.values()), 40)
