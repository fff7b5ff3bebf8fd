"""Needed pairs: points 34 and 35."""

import unittest

from sharenet.building import net_of
from sharenet.canonical import canonical_text
from sharenet.core import core_of, core_text
from sharenet.errors import InvalidStep, TooLong
from sharenet.needed import needed_pair, run_needed, value_known
from sharenet.plain import normal_form
from sharenet.readback import read_back
from sharenet.reader import read_term
from sharenet.rules import interact
from sharenet.running import run_net
from tests.nets import NetMaker, plain, wired
from tests.sharing import PAIR, applied, doubled, made


def net_from(text):
    return net_of(read_term(text))


class Known(unittest.TestCase):
    def test_values_that_are_known_at_the_beginning(self):
        for text in ("5", "!5", "\\x:Int. x", "\\x:Int. (\\y:Int. y) x", "(1 + 2, 3)", "let x = 5 in let y = x in y",
                     "let x = 1 + 2 in (x, x)"):
            net = net_from(text)
            self.assertIs(value_known(net), True)
            before = plain(net)
            self.assertRaises(InvalidStep, needed_pair, net)
            self.assertEqual(run_needed(net), (0, 0, 0, 0, 0))
            self.assertEqual(run_needed(net, most=0), (0, 0, 0, 0, 0))
            self.assertEqual(plain(net), before)

    def test_values_that_are_not_known(self):
        for text in ("1 + 2", "(\\x:Int. x) 1", "let (x, y) = (1, 2) in x + y", "let f = !(\\x:Int. x) in !(f 1)",
                     "let (f, x) = (\\y:Int. y, 1) in f x"):
            self.assertIs(value_known(net_from(text)), False)

    def test_only_port_0_of_a_value_is_known(self):
        for text in ("root a; lam/0 b a c; num=1 b; num=2 c", "root a; lam/0 b c a; num=1 b; num=2 c",
                     "root a; pair/0 b a c; num=1 b; num=2 c", "root a; pair/0 b c a; num=1 b; num=2 c",
                     "root a; fan/0 a b b", "root a; app/0 a b b", "root a; split/0 a b b", "root a; op/0=+ a b b",
                     "root a; op1/0=+1 a b; num=1 b", "root a; fan/0 b a c; num=1 b; num=2 c"):
            self.assertIs(value_known(wired(text)), False)
        for text in ("root a; lam/2 a b b", "root a; pair/1 a b b", "num=3 a; root a"):
            self.assertIs(value_known(wired(text)), True)


class Pairs(unittest.TestCase):
    def expect(self, text, pair):
        net = wired(text)
        before = plain(net)
        self.assertEqual(needed_pair(net), pair)
        self.assertIsInstance(needed_pair(net), tuple)
        self.assertEqual(plain(net), before)

    def refuse(self, *texts):
        for text in texts:
            with self.subTest(text):
                net = wired(text)
                before = plain(net)
                self.assertRaises(InvalidStep, needed_pair, net)
                self.assertRaises(InvalidStep, run_needed, net)
                self.assertEqual(plain(net), before)

    def test_paths_of_one_agent(self):
        self.expect("root a; app/0 p b a; lam/0 p c c; num=1 b", (1, 2))
        self.expect("lam/0 p c c; num=1 b; root a; app/0 p b a", (0, 3))
        self.expect("root a; op/0=+ p b a; num=1 p; num=2 b", (1, 2))
        self.expect("root a; fan/0 p b a; num=1 p; num=2 b", (1, 2))

    def test_paths_of_several_agents(self):
        self.expect("root a; op/0=+ b c a; op/0=- d e b; op1/0=+1 f d; num=1 f; num=2 e; num=3 c", (3, 4))
        self.expect("num=1 f; root a; op/0=+ b c a; op/0=- d e b; op1/0=+1 f d; num=2 e; num=3 c", (0, 4))
        self.expect("root a; split/0 b a c; app/0 d e b; fan/0 f d g; lam/1 f h i; num=1 c; num=2 e; num=3 g; pair/0 i h j; "
                    "num=4 j", (3, 4))

    def test_paths_through_any_port(self):
        self.expect("root a; lam/0 b a c; split/0 d c b; pair/0 d e f; num=1 e; num=2 f", (2, 3))
        self.expect("root a; num=7 b; fan/0 c b d; fan/0 c d a", (2, 3))

    def test_other_pairs_do_not_matter(self):
        net = net_from("(\\x:Int. x * (3 + 4)) (1 + 2)")
        self.assertEqual(len(net.pairs()), 3)
        pair = needed_pair(net)
        self.assertEqual(sorted(net.agent(name)[0] for name in pair), ["app", "lam"])
        self.assertIn(pair, net.pairs())

    def test_a_pair_without_a_rule(self):
        net = wired("root a; app/1 p b a; lam/0 p c c; num=1 b")
        self.assertEqual(needed_pair(net), (1, 2))
        before = plain(net)
        self.assertRaises(InvalidStep, run_needed, net)
        self.assertEqual(plain(net), before)

    def test_paths_that_come_to_the_root(self):
        self.refuse("root a; app/0 a b b", "root a; fan/0 a b b", "root a; op1/0=+1 a b; num=1 b",
                    "root a; op/0=+ a b c; num=1 b; num=2 c")
        self.refuse("root a; app/0 a b c; num=1 b; num=2 c")

    def test_paths_that_come_to_an_agent_twice(self):
        self.refuse("root a; fan/0 b b a", "root a; lam/0 b b a", "root a; app/0 b c a; fan/0 c d b; num=1 d",
                    "root a; app/0 b c a; fan/0 d e b; op/0=+ e d f; num=1 f; num=2 c")
        self.refuse("root a; app/0 b e a; app/0 c f b; app/0 e g c; num=1 f; num=2 g")


class Running(unittest.TestCase):
    def expect(self, text, counts, core):
        net = net_from(text)
        found = run_needed(net)
        self.assertEqual(found, counts)
        self.assertIsInstance(found, tuple)
        self.assertTrue(value_known(net))
        self.assertEqual(core_text(read_back(net)), core)

    def test_numbers_of_interactions(self):
        self.expect("1 + 2", (0, 0, 0, 0, 2), "3")
        self.expect("(\\x:Int. x) 5", (1, 0, 0, 0, 0), "5")
        self.expect("let (x, y) = (1, 2) in (y, x)", (0, 0, 0, 0, 0), "<(snd <1, 2>), (fst <1, 2>)>")
        self.expect("let (x, y) = (1, 2) in y - x", (0, 1, 0, 0, 2), "1")
        self.expect("let f = !(\\x:Int. x) in !(f (f 1))", (2, 0, 1, 1, 0), "1")

    def test_only_what_is_needed(self):
        self.expect("(\\x:Int. (x + 1, 3 * 4)) (1 + 2)", (1, 0, 0, 0, 0), "<((1 + 2) + 1), (3 * 4)>")
        self.expect("let (f, x) = (\\y:Int. \\z:Int. y + z, 1 + 2) in f x", (1, 1, 0, 0, 0), "^((1 + 2) + #0)")
        step = read_term("\\p:(Int, Int). let (a, b) = p in let c = b in (c, a + c)")
        net = net_of(applied(30, step, ("pair", ("num", 0), ("num", 1)), PAIR))
        self.assertEqual(run_needed(net), (3, 0, 0, 2, 0))
        net = net_of(doubled(60))
        self.assertEqual(run_needed(net)[0], 1)

    def test_most(self):
        for text, steps in (("1 + 2", 2), ("let f = !(\\x:Int. x) in !(f (f 1))", 4), ("(\\x:Int. (x, 1 + 1)) 1", 1)):
            wanted = run_needed(net_from(text))
            self.assertEqual(sum(wanted), steps)
            self.assertEqual(run_needed(net_from(text), most=steps), wanted)
            for most in range(steps):
                net, slow = net_from(text), net_from(text)
                self.assertRaises(TooLong, run_needed, net, most=most)
                for _ in range(most):
                    interact(slow, needed_pair(slow))
                self.assertEqual(plain(net), plain(slow))
                self.assertEqual(sum(run_needed(net, most=steps - most)), steps - most)

    def test_the_default(self):
        total = ("num", 0)
        for _ in range(5000):
            total = ("op", "+", total, ("num", 1))
        net = net_of(("op", "+", total, ("num", 1)))
        self.assertRaises(TooLong, run_needed, net)
        self.assertEqual(run_needed(net), (0, 0, 0, 0, 2))
        self.assertEqual(canonical_text(net), "root 1.0; num=5001 0.0")

    def test_names_are_needed_for_what_may_be_left_out(self):
        with self.assertRaises(TypeError):
            run_needed(net_from("1"), 5)

    def test_made_terms(self):
        for term in made(60):
            net = net_of(term)
            all_counts = run_net(net.copied())
            counts = run_needed(net)
            for some, many in zip(counts, all_counts):
                self.assertLessEqual(some, many)
            self.assertTrue(value_known(net))
            self.assertIn(read_back(net)[0], ("lam", "pair", "num"))
            rest = run_net(net)
            self.assertEqual(tuple(a + b for a, b in zip(counts, rest)), all_counts)
            self.assertEqual(read_back(net), normal_form(core_of(term)))

    def test_the_path_by_its_words(self):
        maker = NetMaker(95)
        for net in [net_of(term) for term in made(30)] + [maker.net(many) for many in list(range(1, 10)) * 60]:
            wanted = self.slow_pair(net)
            if wanted is None:
                self.assertRaises(InvalidStep, needed_pair, net)
            else:
                self.assertEqual(needed_pair(net), wanted)
                self.assertIn(wanted, net.pairs())

    def slow_pair(self, net):
        root = [name for name in net.names() if net.agent(name)[0] == "root"][0]
        first, port = net.peer(root, 0)
        if port == 0 and net.agent(first)[0] in ("lam", "pair", "num"):
            return None
        path = [first]
        while root not in path and len(set(path)) == len(path):
            other, port = net.peer(path[-1], 0)
            if port == 0:
                return None if other == root else tuple(sorted([path[-1], other]))
            path.append(other)
        return None
