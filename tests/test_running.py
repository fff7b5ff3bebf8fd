"""Running nets: points 30, 31 and 53."""

import random
import unittest

from sharenet import running
from sharenet.building import net_of
from sharenet.canonical import canonical_text
from sharenet.errors import InvalidStep, TooLong
from sharenet.families import work_of
from sharenet.reader import read_term
from sharenet.rules import interact, rule_of
from sharenet.running import RULES, run_net
from tests.nets import NetMaker, plain, wired
from tests.sharing import PAIR, applied, doubled, made

LAST = [-1] * 2000


def net_from(text):
    return net_of(read_term(text))


class Counts(unittest.TestCase):
    def expect(self, text, counts, end):
        net = net_from(text)
        found = run_net(net)
        self.assertEqual(found, counts)
        self.assertIsInstance(found, tuple)
        self.assertEqual(net.pairs(), [])
        self.assertEqual(canonical_text(net), end)

    def test_the_rules(self):
        self.assertEqual(RULES, ("beta", "unpair", "annihilate", "duplicate", "operate"))
        self.assertIsInstance(running.RULES, tuple)

    def test_finished_nets(self):
        self.expect("5", (0, 0, 0, 0, 0), "root 1.0; num=5 0.0")
        self.expect("\\x:Int. x", (0, 0, 0, 0, 0), "root 1.0; lam/0 0.0 1.2 1.1")
        self.expect("\\x:Int. x + 1", (0, 0, 0, 0, 0), canonical_text(net_from("\\x:Int. x + 1")))

    def test_one_rule_each(self):
        self.expect("(\\x:Int. x) 5", (1, 0, 0, 0, 0), "root 1.0; num=5 0.0")
        self.expect("let (x, y) = (1, 2) in (y, x)", (0, 1, 0, 0, 0), "root 1.0; pair/0 0.0 2.0 3.0; num=2 1.1; num=1 1.2")
        self.expect("let x = 5 in (x, x)", (0, 0, 0, 1, 0), "root 1.0; pair/0 0.0 2.0 3.0; num=5 1.1; num=5 1.2")
        self.expect("5 - 7", (0, 0, 0, 0, 2), "root 1.0; num=-2 0.0")

    def test_all_rules(self):
        self.expect("let f = !(\\x:Int. x) in !(f (f 1))", (2, 0, 1, 1, 0), "root 1.0; num=1 0.0")
        self.expect("let v = !((\\x:Int. x) 1) in !(v + v)", (1, 0, 0, 1, 2), "root 1.0; num=2 0.0")

    def test_a_pair_that_is_active_only_later(self):
        self.expect("(\\x:Int. x + 1) 2 * 3", (1, 0, 0, 0, 4), "root 1.0; num=9 0.0")

    def test_sharing_saves_interactions(self):
        net = net_of(doubled(20))
        self.assertEqual(run_net(net), (60, 0, 20, 20, 0))
        self.assertEqual(canonical_text(net), "root 1.0; lam/1 0.0 1.2 1.1")
        step = read_term("\\p:(Int, Int). let (a, b) = p in let c = b in (c, a + c)")
        net = net_of(applied(30, step, ("pair", ("num", 0), ("num", 1)), PAIR))
        self.assertEqual(run_net(net)[:2], (32, 30))
        self.assertEqual(canonical_text(net), "root 1.0; pair/1 0.0 2.0 3.0; num=832040 1.1; num=1346269 1.2")

    def test_the_work(self):
        for term in made(60):
            self.assertEqual(run_net(net_of(term))[:2], work_of(term, most=20000))


class Orders(unittest.TestCase):
    def test_drawn_choices(self):
        choices = random.Random(81)
        for term in made(50):
            first = net_of(term)
            nets = [first.copied() for _ in range(4)]
            counts = run_net(first)
            drawn = [choices.randrange(-1000, 1000) for _ in range(sum(counts))]
            for net, chosen in zip(nets, (drawn, drawn[:len(drawn) // 2], LAST, tuple(drawn + LAST))):
                self.assertEqual(run_net(net, choices=chosen), counts)
                self.assertEqual(canonical_text(net), canonical_text(first))

    def test_which_pair_a_choice_takes(self):
        text = "root a; op/0=+ h b a; op/0=- e c b; op/0=* f d c; num=4 d; num=1 e; num=2 f; num=3 h"
        for choice, pair in ((0, (1, 7)), (1, (2, 5)), (2, (3, 6)), (3, (1, 7)), (-1, (3, 6)), (-3, (1, 7)),
                             (-4, (3, 6)), (10 ** 20, (2, 5))):
            net, other = wired(text), wired(text)
            self.assertRaises(TooLong, run_net, net, choices=[choice], most=1)
            interact(other, pair)
            self.assertEqual(plain(net), plain(other))

    def test_choices_that_are_too_few_take_the_first_pair(self):
        text = "root a; op/0=+ h b a; op/0=- e c b; op/0=* f d c; num=4 d; num=1 e; num=2 f; num=3 h"
        net, other = wired(text), wired(text)
        self.assertRaises(TooLong, run_net, net, choices=(1,), most=3)
        interact(other, (2, 5))
        interact(other, (1, 7))
        interact(other, (3, 6))
        self.assertEqual(plain(net), plain(other))

    def test_choices_are_not_changed(self):
        chosen = [5, -3]
        run_net(net_from("1 + 2 * 3"), choices=chosen)
        self.assertEqual(chosen, [5, -3])

    def test_pairs_stay_active_with_the_same_rule(self):
        choices = random.Random(82)
        for term in made(20):
            net = net_of(term)
            while net.pairs():
                before = {pair: rule_of(net, pair) for pair in net.pairs()}
                self.assertNotIn(None, before.values())
                taken = choices.choice(net.pairs())
                self.assertEqual(interact(net, taken), before.pop(taken))
                for pair, rule in before.items():
                    self.assertEqual(rule_of(net, pair), rule)

    def test_two_pairs_in_both_orders(self):
        choices = random.Random(83)
        for term in made(10):
            net = net_of(term)
            while len(net.pairs()) > 1:
                first, second = choices.sample(net.pairs(), 2)
                one, other = net.copied(), net.copied()
                interact(one, first)
                interact(one, second)
                interact(other, second)
                interact(other, first)
                self.assertEqual(canonical_text(one), canonical_text(other))
                interact(net, first)


class Limits(unittest.TestCase):
    def test_most(self):
        for text, steps in (("(\\x:Int. x) 5", 1), ("1 + 2", 2), ("let f = !(\\x:Int. x) in !(f (f 1))", 4)):
            wanted = run_net(net_from(text))
            self.assertEqual(sum(wanted), steps)
            for choices in ((), LAST):
                net = net_from(text)
                self.assertEqual(run_net(net, choices=choices, most=steps), wanted)
                self.assertEqual(net.pairs(), [])
                for most in range(steps):
                    net = net_from(text)
                    self.assertRaises(TooLong, run_net, net, choices=choices, most=most)
                    self.assertNotEqual(net.pairs(), [])

    def test_the_interactions_before_too_long_have_been_made(self):
        term = made(10)[-1]
        steps = sum(run_net(net_of(term)))
        net, slow = net_of(term), net_of(term)
        self.assertRaises(TooLong, run_net, net, most=steps // 2)
        for _ in range(steps // 2):
            interact(slow, slow.pairs()[0])
        self.assertEqual(plain(net), plain(slow))
        rest = run_net(net, most=steps - steps // 2)
        self.assertEqual(sum(rest), steps - steps // 2)

    def test_most_of_0(self):
        net = net_from("1 + 2")
        before = plain(net)
        self.assertRaises(TooLong, run_net, net, most=0)
        self.assertEqual(plain(net), before)
        self.assertEqual(run_net(net_from("1"), most=0), (0, 0, 0, 0, 0))

    def test_the_default(self):
        total = ("num", 0)
        for _ in range(5000):
            total = ("op", "+", total, ("num", 1))
        net = net_of(total)
        self.assertEqual(run_net(net), (0, 0, 0, 0, 10000))
        self.assertEqual(canonical_text(net), "root 1.0; num=5000 0.0")
        net = net_of(("op", "+", total, ("num", 1)))
        self.assertRaises(TooLong, run_net, net)
        self.assertEqual(run_net(net), (0, 0, 0, 0, 2))

    def test_names_are_needed_for_what_may_be_left_out(self):
        with self.assertRaises(TypeError):
            run_net(net_from("1"), [])


class WithoutRules(unittest.TestCase):
    def test_a_pair_without_a_rule(self):
        net = wired("root a; app/1 p b a; lam/0 p c c; num=1 b")
        before = plain(net)
        self.assertRaises(InvalidStep, run_net, net)
        self.assertRaises(InvalidStep, run_net, net, choices=[-5])
        self.assertEqual(plain(net), before)

    def test_only_the_pair_that_is_taken_needs_a_rule(self):
        text = "root a; app/1 p b a; lam/0 p c c; op1/0=+1 q b; num=2 q"
        net = wired(text)
        self.assertRaises(TooLong, run_net, net, choices=[1], most=1)
        self.assertEqual(net.pairs(), [(1, 2)])
        self.assertRaises(InvalidStep, run_net, net, choices=[1])
        self.assertRaises(InvalidStep, run_net, wired(text), choices=[0])

    def test_made_nets(self):
        maker = NetMaker(85)
        for many in list(range(2, 12)) * 30:
            net = maker.net(many)
            slow, counts = net.copied(), [0] * 5
            while slow.pairs() and rule_of(slow, slow.pairs()[-1]) is not None and sum(counts) < 30:
                counts[RULES.index(interact(slow, slow.pairs()[-1]))] += 1
            if not slow.pairs():
                self.assertEqual(run_net(net, choices=LAST), tuple(counts))
            else:
                error = TooLong if sum(counts) == 30 else InvalidStep
                self.assertRaises(error, run_net, net, choices=LAST, most=30)
            self.assertEqual(plain(net), plain(slow))
