"""Reading nets back: points 32 and 33."""

import random
import unittest

from sharenet.building import net_of
from sharenet.core import core_of, core_text
from sharenet.errors import Unreadable
from sharenet.net import Net
from sharenet.plain import contract, normal_form
from sharenet.readback import read_back, read_count, shared_agents
from sharenet.reader import read_term
from sharenet.rules import interact, rule_of
from sharenet.running import run_net
from tests.nets import Endless, NetMaker, NotReadable, Walk, plain, wired
from tests.sharing import doubled, made


class Reading(unittest.TestCase):
    def expect(self, text, core):
        net = wired(text)
        before = plain(net)
        self.assertEqual(core_text(read_back(net)), core)
        self.assertEqual(plain(net), before)

    def refuse(self, *texts):
        for text in texts:
            with self.subTest(text):
                net = wired(text)
                self.assertRaises(Unreadable, read_back, net)
                self.assertRaises(Unreadable, shared_agents, net)
                for name in net.names():
                    self.assertRaises(Unreadable, read_count, net, name)


class Entries(Reading):
    def test_every_entry_that_the_walk_names(self):
        self.expect("root a; num=-5 a", "-5")
        self.expect("root a; lam/3 a b b", "^#0")
        self.expect("root a; lam/0 a b c; num=1 c; num=2 b", "^1")
        self.expect("root a; app/2 b c a; num=1 b; num=2 c", "(1 2)")
        self.expect("root a; op/2=- b c a; num=1 b; num=2 c", "(1 - 2)")
        self.expect("root a; op1/2=*-7 b a; num=3 b", "(-7 * 3)")
        self.expect("root a; pair/2 a b c; num=1 b; num=2 c", "<1, 2>")
        self.expect("root a; split/2 b a c; num=1 b; num=2 c", "(fst 1)")
        self.expect("root a; split/2 b c a; num=1 b; num=2 c", "(snd 1)")
        self.expect("root a; pair/0 a b c; fan/0 d b c; num=1 d", "<1, 1>")

    def test_entries_inside_one_another(self):
        self.expect("root a; pair/0 a b c; app/0 d e b; lam/0 d f g; op/0=+ f h g; num=1 h; num=2 e; split/0 i c j; "
                    "num=3 i; num=4 j", "<(^(#0 + 1) 2), (fst 3)>")
        self.expect("root a; lam/0 a b c; split/0 b d e; op/0=* d e c", "^((fst #0) * (snd #0))")
        self.expect("root a; op1/0=+4 b a; op1/0=--5 c b; op/0=* d e c; num=1 d; num=2 e", "(4 + (-5 - (1 * 2)))")

    def test_numbers_of_variables(self):
        self.expect("root a; lam/0 a b c; lam/0 c d e; app/0 d b e", "^^(#0 #1)")
        self.expect("root a; lam/2 a b c; lam/1 c d e; lam/0 e f g; pair/0 g h d; pair/0 h b f", "^^^<<#2, #0>, #1>")
        self.expect("root a; pair/0 a b c; lam/0 b d d; lam/0 c e f; lam/0 f g h; app/0 e g h", "<^#0, ^^(#1 #0)>")

    def test_other_entries(self):
        self.refuse("root a; app/0 a b b", "root a; app/0 b a c; num=1 b; num=2 c", "root a; app/0 b a b",
                    "root a; op/0=+ a b b", "root a; op/0=+ b a c; num=1 b; num=2 c", "root a; op1/0=+1 a b; num=1 b",
                    "root a; pair/0 b a c; num=1 b; num=2 c", "root a; pair/0 b c a; num=1 b; num=2 c",
                    "root a; split/0 a b c; num=1 b; num=2 c", "root a; lam/0 b a c; num=1 b; num=2 c",
                    "root a; lam/0 b c a; num=1 b; num=2 c", "root a; lam/0 b b a", "root a; fan/0 a b c; num=1 b; num=2 c")

    def test_other_entries_at_parts(self):
        for part in ("app/0 X y y", "op/0=* X y y", "split/0 X y y", "pair/0 y X y", "pair/0 y y X", "lam/0 y y X",
                     "lam/0 y X y", "fan/0 X y y", "op1/0=+1 X y; lam/0 y z z"):
            self.refuse(*[f"root a; {node}; {part.replace('X', 'p')}" for node in (
                "app/0 p b a; num=1 b", "app/0 b p a; num=1 b", "op/0=+ p b a; num=1 b", "op/0=+ b p a; num=1 b",
                "op1/0=+1 p a", "lam/0 a b p; num=1 b", "pair/0 a p b; num=1 b", "pair/0 a b p; num=1 b",
                "split/0 p a b; num=1 b", "split/0 p b a; num=1 b")])

    def test_a_variable_outside_of_its_function(self):
        self.refuse("root a; pair/0 a b c; lam/0 b c d; num=1 d", "root a; app/0 b c a; lam/0 b c d; num=1 d",
                    "root a; lam/0 a b c; pair/0 c d e; lam/0 d e f; num=1 f; num=2 b")


class Stacks(Reading):
    def test_fans_that_are_entered_at_port_0(self):
        self.expect("root a; pair/0 a b c; fan/0 d b c; fan/0 d e f; num=1 e; num=2 f", "<1, 2>")
        self.expect("root a; pair/0 a b c; fan/4 d b c; fan/4 d f e; num=1 e; num=2 f", "<2, 1>")
        self.refuse("root a; pair/0 a b c; fan/0 d b c; fan/1 d e f; num=1 e; num=2 f",
                    "root a; pair/0 a b c; fan/1 d b c; fan/0 d e f; num=1 e; num=2 f")

    def test_several_numbers_on_the_stack_of_a_level(self):
        self.expect("root a; pair/0 a g f; pair/0 g b c; fan/0 d b c; fan/0 e d f; fan/0 e h i; fan/0 h j k; "
                    "num=1 j; num=2 k; num=3 i", "<<1, 2>, 3>")
        self.expect("root a; pair/0 a g f; pair/0 g b c; fan/7 d b c; fan/7 e f d; fan/7 e i h; fan/7 h k j; "
                    "num=1 j; num=2 k; num=3 i", "<<2, 1>, 3>")

    def test_stacks_of_several_levels(self):
        for low, high in ((0, 1), (1, 0), (2, 10 ** 12)):
            self.expect(f"root a; pair/0 a p q; pair/0 p b c; pair/0 q m n; fan/{low} d b c; fan/{low} f m n; "
                        f"fan/{high} e d f; fan/{low} e h i; fan/{high} h j k; fan/{high} i l o; "
                        "num=1 j; num=2 k; num=3 l; num=4 o", "<<1, 3>, <2, 4>>")

    def test_the_parts_of_a_node_are_read_with_the_same_stacks(self):
        self.expect("root a; pair/0 a b c; fan/0 d b c; pair/1 d e f; fan/0 e g h; fan/0 f i j; num=1 g; num=2 h; "
                    "num=3 i; num=4 j", "<<1, 3>, <2, 4>>")
        self.expect("root a; pair/0 a b c; fan/0 d b c; app/1 e f d; fan/0 e g h; fan/0 f i j; num=1 g; num=2 h; "
                    "num=3 i; num=4 j", "<(1 3), (2 4)>")

    def test_binders_with_stacks(self):
        self.expect("root a; pair/0 a b c; fan/0 d b c; lam/1 d e e", "<^#0, ^#0>")
        self.expect("root a; lam/0 a e f; fan/0 e f g; num=1 g", "^#0")
        self.expect("root a; lam/1 a e f; fan/1 e f g; num=1 g", "^#0")
        self.expect("root a; lam/1 a e f; fan/2 e f g; num=1 g", "^#0")
        self.refuse("root a; lam/1 a e f; fan/0 e f g; num=1 g", "root a; lam/5 a e f; fan/4 e f g; num=1 g")

    def test_a_function_below_itself(self):
        # The function is entered with the stacks 1 and 2 of level 0; its variable belongs to one of the two.
        text = "root a; lam/{} d e f; fan/0 d a g; fan/0 f g h; fan/0 e {}; num=5 i"
        self.expect(text.format(1, "h i"), "^^#1")
        self.expect(text.format(1, "i h"), "^^#0")
        self.expect(text.format(0, "h i"), "^^#0")
        self.expect(text.format(0, "i h"), "^^#0")


class EndlessWalks(Reading):
    def test_walks_that_do_not_end(self):
        self.refuse("root a; fan/0 b b a", "root a; fan/0 d a e; app/0 e b d; num=1 b")
        self.refuse("root a; lam/1 d e f; fan/0 d a f; num=1 e")

    def test_exactly_100000_agents(self):
        for many, readable in ((99999, True), (100000, False)):
            agents = [("root", 0, None), *[("op1", 0, ("+", 1))] * many, ("num", 0, 7)]
            wires = [((0, 0), (1, 1)), *[((name, 0), (name + 1, 1 if name < many else 0)) for name in range(1, many + 1)]]
            net = Net(agents, wires)
            if readable:
                core, depth = read_back(net), 0
                while core[0] == "op":
                    self.assertEqual(core[:3], ("op", "+", ("num", 1)))
                    core, depth = core[3], depth + 1
                self.assertEqual((core, depth), (("num", 7), many))
                self.assertEqual(read_count(net, many + 1), 1)
                self.assertEqual(shared_agents(net), [])
            else:
                self.assertRaises(Unreadable, read_back, net)
                self.assertRaises(Unreadable, read_count, net, 0)
                self.assertRaises(Unreadable, shared_agents, net)

    def test_entries_of_shared_agents_count_again(self):
        term = ("num", 1)
        for _ in range(14):
            term = ("let", "x", ("box", term), ("box", ("pair", ("var", "x"), ("var", "x"))))
        net = net_of(term)
        self.assertEqual(len(core_text(read_back(net))), 5 * 2 ** 14 - 4)
        self.assertRaises(Unreadable, read_back, net_of(("let", "x", ("box", term), ("box", read_term("(x, x)")))))


class Counts(unittest.TestCase):
    def test_the_root_and_agents_that_are_not_entered(self):
        net = wired("root a; split/0 b a c; num=1 b; num=2 c")
        self.assertEqual([read_count(net, name) for name in range(4)], [0, 1, 1, 0])
        self.assertEqual(shared_agents(net), [])

    def test_functions_that_are_entered_at_port_1(self):
        net = wired("root a; lam/0 a b b")
        self.assertEqual([read_count(net, name) for name in range(2)], [0, 2])
        self.assertEqual(shared_agents(net), [])
        net = net_of(read_term("\\x:Int. let y = x in y + (y + y)"))
        names = {net.agent(name)[0]: name for name in net.names()}
        self.assertEqual(read_count(net, names["lam"]), 4)
        self.assertEqual(shared_agents(net), [])

    def test_shared_agents(self):
        net = wired("root a; pair/0 a b c; fan/0 d b c; lam/1 d e e")
        self.assertEqual([read_count(net, name) for name in range(4)], [0, 1, 2, 4])
        self.assertEqual(shared_agents(net), [3])
        self.assertIsInstance(shared_agents(net), list)
        net = wired("num=1 e; lam/1 d x x; root a; fan/0 d b c; pair/0 a b f; app/0 c e f")
        self.assertEqual([read_count(net, name) for name in range(6)], [1, 4, 0, 2, 1, 1])
        self.assertEqual(shared_agents(net), [1])

    def test_shared_agents_are_ascending(self):
        net = wired("num=2 e; num=1 f; root a; pair/1 d f e; fan/0 d b c; pair/0 a b c")
        self.assertEqual(shared_agents(net), [0, 1, 3])
        self.assertEqual([read_count(net, name) for name in range(6)], [2, 2, 0, 2, 2, 1])

    def test_every_call_returns_a_new_list(self):
        net = wired("root a; pair/0 a b c; fan/0 d b c; lam/1 d e e")
        shared_agents(net).clear()
        self.assertEqual(shared_agents(net), [3])

    def test_agents_that_have_been_cut_off(self):
        net = wired("root a; split/0 p a b; pair/0 p c d; num=1 c; lam/0 d e f; fan/0 b e f")
        interact(net, (1, 2))
        self.assertEqual([read_count(net, name) for name in net.names()], [0, 1, 0, 0])
        self.assertEqual(read_back(net), ("num", 1))

    def test_made_nets(self):
        maker, readable, endless = NetMaker(90), 0, 0
        for many in list(range(1, 8)) * 300:
            net = maker.net(many)
            try:
                walk = Walk(net, 300)
            except Endless:
                endless += 1
            except NotReadable:
                self.assertRaises(Unreadable, read_back, net)
            else:
                readable += 1
                self.check_walk(net, walk)
        self.assertGreater(readable, 100)
        self.assertGreater(endless, 10)

    def test_made_terms(self):
        for term in made(30):
            net = net_of(term)
            self.check_walk(net, Walk(net))
            run_net(net)
            self.check_walk(net, Walk(net))

    def check_walk(self, net, walk):
        self.assertEqual(read_back(net), walk.core)
        counts = {name: 0 for name in net.names()}
        shared = dict(counts)
        for (name, port), many in walk.counts.items():
            counts[name] += many
            if net.agent(name)[0] != "fan" and (net.agent(name)[0], port) != ("lam", 1):
                shared[name] += many
        for name in net.names()[::1 + len(net) // 8]:
            self.assertEqual(read_count(net, name), counts[name])
        self.assertEqual(shared_agents(net), [name for name in counts if shared[name] > 1])


class Interactions(unittest.TestCase):
    def check_interaction(self, net, pair):
        """Compare what is read back before and after an interaction, by point 33."""
        walk, rule = Walk(net), rule_of(net, pair)
        core = read_back(net)
        self.assertEqual(core, walk.core)
        kinds = [net.agent(name)[0] for name in pair]
        if rule in ("beta", "unpair"):
            inner = pair[kinds.index("lam" if rule == "beta" else "pair")]
            outer = sum(pair) - inner
            paths = [path for path, name in walk.sources.items()
                     if name == outer and walk.sources.get((*path, 0)) == inner and self.is_redex_at(core, path)]
            self.assertNotEqual(paths, [])
        elif rule == "operate" and "op1" in kinds:
            paths = [path for path, name in walk.sources.items() if name == pair[kinds.index("op1")]]
        else:
            paths = []
        self.assertEqual(interact(net, pair), rule)
        # An inner redex is contracted before the ones around it, so that their paths remain.
        for path in sorted(paths, reverse=True):
            core = contract(core, path)
        self.assertEqual(read_back(net), core)
        return rule

    def is_redex_at(self, core, path):
        for number in path:
            core = [part for part in core if isinstance(part, tuple)][number]
        return core[1][0] in ("lam", "pair")

    def test_every_interaction_of_made_terms(self):
        choices, rules = random.Random(92), {}
        for term in made(25, 30):
            net = net_of(term)
            self.assertEqual(read_back(net), core_of(term))
            while net.pairs():
                rule = self.check_interaction(net, choices.choice(net.pairs()))
                rules[rule] = rules.get(rule, 0) + 1
            self.assertEqual(read_back(net), normal_form(core_of(term)))
        for rule in ("beta", "unpair", "annihilate", "duplicate", "operate"):
            self.assertGreater(rules[rule], 2)

    def test_pairs_in_shared_functions(self):
        net = net_of(read_term("let f = !(\\p:(Int, Int). let (a, b) = p in (b, a)) in "
                               "let g = !(\\p:(Int, Int). f (f p)) in !(g (g (1, 2)))"))
        while net.pairs():
            self.check_interaction(net, net.pairs()[-1])
        self.assertEqual(core_text(read_back(net)), "<1, 2>")

    def test_one_interaction_for_several_redexes(self):
        net = net_of(read_term("let v = !((\\x:Int. x + 1) 2) in !(v, v)"))
        self.assertEqual(core_text(read_back(net)), "<(^(#0 + 1) 2), (^(#0 + 1) 2)>")
        beta = [pair for pair in net.pairs() if rule_of(net, pair) == "beta"][0]
        interact(net, beta)
        self.assertEqual(core_text(read_back(net)), "<(2 + 1), (2 + 1)>")

    def test_both_parts_of_an_operation(self):
        net = net_of(read_term("let v = 5 - 7 in (v, v)"))
        for core in ("<(5 - 7), (5 - 7)>", "<(5 - 7), (5 - 7)>", "<-2, -2>", "<-2, -2>"):
            self.assertEqual(core_text(read_back(net)), core)
            if net.pairs():
                interact(net, net.pairs()[-1])

    def test_doubled_functions(self):
        for times in range(1, 6):
            net = net_of(doubled(times))
            while net.pairs():
                self.check_interaction(net, net.pairs()[-1])
            self.assertEqual(core_text(read_back(net)), "^#0")
