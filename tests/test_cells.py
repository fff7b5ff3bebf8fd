"""Machines with cells: points 37 to 40."""

import random
import unittest

from sharenet.building import net_of
from sharenet.canonical import canonical_order, canonical_text, same_net
from sharenet.cells import CellMachine
from sharenet.errors import InvalidStep, TooLarge, TooLong
from sharenet.reader import read_term
from sharenet.rules import interact
from sharenet.running import RULES, run_net
from tests.celling import SlowMachine, state
from tests.nets import NetMaker, plain, wired
from tests.sharing import applied, doubled, made

LAST = [-1] * 3000


def machine_for(text, capacity):
    return CellMachine(net_of(read_term(text)), capacity=capacity)


class ByCell(unittest.TestCase):
    """Memory, numbers, signs and free list, cell by cell."""

    def expect(self, machine, cells, numbers, signs, free, peak):
        self.assertEqual(machine.memory(), [integer for cell in cells for integer in cell])
        self.assertEqual(machine.numbers(), numbers)
        self.assertEqual(machine.signs(), signs)
        self.assertEqual(machine.free_cells(), free)
        self.assertEqual(machine.peak, peak)

    def step(self, machine, pair, rule):
        self.assertIn(pair, machine.pairs())
        self.assertEqual(machine.interact(pair), rule)

    def test_loading_and_duplicating_a_number(self):
        machine = machine_for("let x = 5 in (x, x)", 6)
        self.expect(machine, [[1, 0, 3, -1, -1], [8, 0, 0, 7, 8], [4, 0, 9, 4, 5], [5, 0, 6, -1, -1],
                              [0, 0, 5, 0, 0], [0, 0, 0, 0, 0]],
                    [0, 0, 0, 5, 0, 0], [""] * 6, [4, 5], 4)
        self.assertEqual(machine.pairs(), [(2, 3)])
        self.step(machine, (2, 3), "duplicate")
        self.expect(machine, [[1, 0, 3, -1, -1], [8, 0, 0, 6, 9], [5, 0, 4, -1, -1], [5, 0, 5, -1, -1],
                              [0, 0, 5, 0, 0], [0, 0, 0, 0, 0]],
                    [0, 0, 5, 5, 0, 0], [""] * 6, [4, 5], 4)
        self.assertEqual(machine.pairs(), [])

    def test_operate(self):
        machine = machine_for("7 - 9", 5)
        self.expect(machine, [[1, 0, 5, -1, -1], [6, 0, 6, 9, 0], [5, 0, 3, -1, -1], [5, 0, 4, -1, -1],
                              [0, 0, 0, 0, 0]],
                    [0, 0, 7, 9, 0], ["", "-", "", "", ""], [4], 4)
        self.step(machine, (1, 2), "operate")
        self.expect(machine, [[1, 0, 4, -1, -1], [7, 0, 9, 0, -1], [0, 0, 4, 0, 0], [5, 0, 3, -1, -1],
                              [0, 0, 0, 0, 0]],
                    [0, 7, 0, 9, 0], ["", "-", "", "", ""], [2, 4], 4)
        self.step(machine, (1, 3), "operate")
        self.expect(machine, [[1, 0, 3, -1, -1], [5, 0, 0, -1, -1], [0, 0, 4, 0, 0], [0, 0, 2, 0, 0],
                              [0, 0, 0, 0, 0]],
                    [0, -2, 0, 0, 0], [""] * 5, [3, 2, 4], 4)

    def test_beta(self):
        machine = machine_for("(\\x:Int. x + 1) 2", 7)
        self.expect(machine, [[1, 0, 5, -1, -1], [3, 0, 6, 9, 0], [2, 0, 3, 12, 14], [5, 0, 4, -1, -1],
                              [6, 0, 7, 15, 8], [5, 0, 13, -1, -1], [0, 0, 0, 0, 0]],
                    [0, 0, 0, 2, 0, 1, 0], ["", "", "", "", "+", "", ""], [6], 6)
        self.step(machine, (1, 2), "beta")
        self.expect(machine, [[1, 0, 14, -1, -1], [0, 0, 2, 0, 0], [0, 0, 6, 0, 0], [5, 0, 12, -1, -1],
                              [6, 0, 9, 15, 0], [5, 0, 13, -1, -1], [0, 0, 0, 0, 0]],
                    [0, 0, 0, 2, 0, 1, 0], ["", "", "", "", "+", "", ""], [1, 2, 6], 6)

    def test_unpair(self):
        machine = machine_for("let (x, y) = (1, 2) in (y, x)", 6)
        self.expect(machine, [[1, 0, 3, -1, -1], [8, 0, 0, 8, 7], [9, 0, 9, 5, 4], [8, 0, 6, 12, 15],
                              [5, 0, 10, -1, -1], [5, 0, 11, -1, -1]],
                    [0, 0, 0, 0, 1, 2], [""] * 6, [], 6)
        self.step(machine, (2, 3), "unpair")
        self.expect(machine, [[1, 0, 3, -1, -1], [8, 0, 0, 15, 12], [0, 0, 3, 0, 0], [0, 0, 0, 0, 0],
                              [5, 0, 5, -1, -1], [5, 0, 4, -1, -1]],
                    [0, 0, 0, 0, 1, 2], [""] * 6, [2, 3], 6)

    def test_duplicate_agents_of_a_greater_level_and_annihilate(self):
        net = wired("root a; pair/0 a b c; fan/0 p b c; lam/1 p d d")
        machine = CellMachine(net, capacity=7)
        self.expect(machine, [[1, 0, 3, -1, -1], [8, 0, 0, 7, 8], [4, 0, 9, 4, 5], [2, 1, 6, 11, 10],
                              [0, 0, 5, 0, 0], [0, 0, 6, 0, 0], [0, 0, 0, 0, 0]],
                    [0] * 7, [""] * 7, [4, 5, 6], 4)
        self.step(machine, (2, 3), "duplicate")
        # The copies get the cells 2 and 3, and the new fans the cells 4 and 5.
        self.expect(machine, [[1, 0, 3, -1, -1], [8, 0, 0, 6, 9], [2, 1, 4, 13, 16], [2, 1, 5, 14, 17],
                              [4, 0, 15, 7, 10], [4, 0, 12, 8, 11], [0, 0, 0, 0, 0]],
                    [0] * 7, [""] * 7, [6], 6)
        self.assertEqual(machine.pairs(), [(4, 5)])
        self.step(machine, (4, 5), "annihilate")
        self.expect(machine, [[1, 0, 3, -1, -1], [8, 0, 0, 6, 9], [2, 1, 4, 8, 7], [2, 1, 5, 11, 10],
                              [0, 0, 5, 0, 0], [0, 0, 6, 0, 0], [0, 0, 0, 0, 0]],
                    [0] * 7, [""] * 7, [4, 5, 6], 6)

    def test_every_header(self):
        net = wired("root a; lam/1 a b c; app/2 d b e; fan/3 c d f; split/4 g e f; pair/5 h g i; op/6=* j h i; "
                    "op1/7=-8 k j; num=-9 k")
        machine = CellMachine(net, capacity=9)
        kinds = [net.agent(name)[0] for name in canonical_order(net)]
        headers = {"root": 1, "lam": 2, "app": 3, "fan": 4, "num": 5, "op": 6, "op1": 7, "pair": 8, "split": 9}
        self.assertEqual(machine.memory()[::5], [headers[kind] for kind in kinds])
        self.assertEqual(sorted(machine.memory()[1::5]), [0, 0, 1, 2, 3, 4, 5, 6, 7])
        self.assertEqual(sorted(machine.numbers()), [-9, 0, 0, 0, 0, 0, 0, 0, 8])
        self.assertEqual(sorted(machine.signs()), [""] * 7 + ["*", "-"])
        self.assertEqual(state(machine), state(SlowMachine(net, 9)))

    def test_numbers_of_any_size(self):
        machine = machine_for("1", 3)
        self.assertEqual(machine.numbers(), [0, 1, 0])
        machine = CellMachine(net_of(("op", "*", ("num", 10 ** 5000), ("num", 10 ** 5000))), capacity=4)
        self.assertEqual(machine.run(), (0, 0, 0, 0, 2))
        self.assertEqual(sorted(machine.numbers()), [0, 0, 0, 10 ** 10000])


class AgainstWords(unittest.TestCase):
    def compare(self, net, capacity, choices, most=200):
        """Reduce by drawn choices and compare everything with the slow machine after every interaction."""
        machine, slow = CellMachine(net, capacity=capacity), SlowMachine(net, capacity)
        self.assertEqual(state(machine), state(slow))
        tried = []
        while slow.pairs() and len(tried) < most:
            able = [pair for pair in slow.pairs() if slow.rule(pair) is not None]
            for pair in slow.pairs():
                if pair not in able:
                    self.assertRaises(InvalidStep, machine.interact, pair)
            if not able:
                break
            pair = choices.choice(able)
            rule = slow.rule(pair)
            tried.append(rule)
            self.assertEqual(machine.interact(pair), rule)
            slow.interact(pair)
            self.assertEqual(state(machine), state(slow))
        return tried

    def test_terms(self):
        choices = random.Random(120)
        tried = []
        for term in made(40):
            net = net_of(term)
            tried.extend(self.compare(net, len(net) + 200, choices, most=60))
        for rule in RULES:
            self.assertGreater(tried.count(rule), 5)

    def test_made_nets(self):
        maker, choices = NetMaker(121), random.Random(121)
        tried = []
        for many in list(range(2, 13)) * 60:
            net = maker.net(many)
            tried.extend(self.compare(net, len(net) + 40, choices, most=6))
        for rule in RULES:
            self.assertGreater(tried.count(rule), 5)

    def test_nets_after_interactions(self):
        choices = random.Random(122)
        for term in made(10):
            net = net_of(term)
            for _ in range(10):
                if net.pairs():
                    interact(net, choices.choice(net.pairs()))
            self.compare(net, len(net) + 60, choices, most=10)

    def test_to_net(self):
        choices = random.Random(123)
        for term in made(25):
            net = net_of(term)
            machine = CellMachine(net, capacity=len(net) + 500)
            while True:
                # The cells of the machine and the names of the net differ, so its own net gives the pair.
                found = machine.to_net()
                self.assertTrue(same_net(found, net))
                self.assertEqual(canonical_order(found), list(range(len(found))))
                self.assertEqual(found.names(), canonical_order(found))
                if not net.pairs():
                    break
                number = choices.randrange(len(net.pairs()))
                pair = found.pairs()[number]
                machine.interact(self.cells_of(machine, pair))
                order = canonical_order(net)
                interact(net, tuple(sorted((order[pair[0]], order[pair[1]]))))

    def cells_of(self, machine, pair):
        """The cells of two agents with certain canonical numbers."""
        memory, order = machine.memory(), [0]
        for cell in order:
            for peer in memory[5 * cell + 2:5 * cell + 5]:
                if peer >= 0 and peer // 3 not in order:
                    order.append(peer // 3)
        return tuple(sorted((order[pair[0]], order[pair[1]])))

    def test_the_net_of_a_machine_goes_on_alone(self):
        machine = machine_for("1 + 2", 4)
        run_net(machine.to_net())
        self.assertEqual(machine.pairs(), [(1, 2)])
        machine.run()
        self.assertEqual(canonical_text(machine.to_net()), "root 1.0; num=3 0.0")

    def test_agents_that_are_cut_off(self):
        net = wired("root a; split/0 p a b; pair/0 p c d; num=1 c; lam/0 d e f; fan/0 b e f")
        machine = CellMachine(net, capacity=6)
        self.assertEqual(machine.interact((1, 2)), "unpair")
        self.assertEqual(canonical_text(machine.to_net()), "root 1.0; num=1 0.0")
        interact(net, net.pairs()[0])
        self.assertEqual(len(net), 4)
        machine = CellMachine(net, capacity=4)
        self.assertEqual(machine.memory(), [1, 0, 3, -1, -1, 5, 0, 0, -1, -1, 0, 0, 3, 0, 0, 0, 0, 0, 0, 0])


class Capacity(unittest.TestCase):
    def test_loading(self):
        for text, many in (("5", 2), ("let x = 5 in (x, x)", 4), ("\\x:Int. (x + 1) * 2", 6)):
            net = net_of(read_term(text))
            self.assertEqual(len(net), many)
            for capacity in range(-1, many):
                self.assertRaises(TooLarge, CellMachine, net, capacity=capacity)
            machine = CellMachine(net, capacity=many)
            self.assertEqual(machine.free_cells(), [])
            self.assertEqual(len(machine.memory()), 5 * many)
            self.assertEqual(machine.peak, many)

    def test_a_duplication_needs_its_new_cells(self):
        # The copies and the new fans, of which two get the cells of the pair.
        for text, pair, extra in (("root a; pair/0 a b c; fan/0 p b c; lam/1 p d d", (2, 3), 2),
                                  ("root a; pair/0 a b c; fan/0 p b c; op1/1=+2 p d; num=7 d", (2, 3), 1),
                                  ("root a; pair/0 a b c; fan/0 p b c; fan/1 p d d", (2, 3), 2),
                                  ("root a; pair/0 a b c; fan/0 p b c; op/1=- p d d", (2, 3), 2),
                                  ("root a; pair/0 a b c; fan/0 p b c; num=7 p", (2, 3), 0)):
            net = wired(text)
            for capacity in range(len(net), len(net) + extra):
                machine = CellMachine(net, capacity=capacity)
                before = state(machine)
                self.assertRaises(TooLarge, machine.interact, pair)
                self.assertRaises(TooLarge, machine.run)
                self.assertEqual(state(machine), before)
            machine = CellMachine(net, capacity=len(net) + extra)
            self.assertEqual(machine.interact(pair), "duplicate")
            self.assertEqual(machine.free_cells(), [])
            self.assertEqual(machine.peak, len(net) + extra)

    def test_other_rules_need_no_more_cells(self):
        for text, rule in (("(\\x:Int. x) 5", "beta"), ("let (x, y) = (1, 2) in (y, x)", "unpair"), ("1 + 2", "operate")):
            net = net_of(read_term(text))
            machine = CellMachine(net, capacity=len(net))
            self.assertEqual(machine.interact(machine.pairs()[0]), rule)
            self.assertEqual(machine.peak, len(net))

    def test_the_peak_is_exactly_enough(self):
        for term in made(12):
            net = net_of(term)
            machine = CellMachine(net, capacity=len(net) + 1000)
            counts = machine.run()
            enough = CellMachine(net, capacity=machine.peak)
            self.assertEqual(enough.run(), counts)
            self.assertEqual(enough.peak, machine.peak)
            if machine.peak > len(net):
                self.assertRaises(TooLarge, CellMachine(net, capacity=machine.peak - 1).run)

    def test_interactions_before_too_large_have_been_made(self):
        made_before = []
        for term in made(30):
            net = net_of(term)
            full = CellMachine(net, capacity=len(net) + 1000)
            full.run()
            if full.peak == len(net):
                continue
            machine, slow = CellMachine(net, capacity=full.peak - 1), SlowMachine(net, full.peak - 1)
            self.assertRaises(TooLarge, machine.run)
            many = 0
            while slow.rule(slow.pairs()[0]) != "duplicate" or slow.needed(slow.pairs()[0]) <= len(slow.free) + 2:
                slow.interact(slow.pairs()[0])
                many += 1
            self.assertEqual(state(machine), state(slow))
            made_before.append(many)
        self.assertGreater(max(made_before), 5)


class WrongPairs(unittest.TestCase):
    def test_pairs_that_are_not_active(self):
        machine = machine_for("(\\x:Int. x + 1) 2", 9)
        before = state(machine)
        self.assertEqual(machine.pairs(), [(1, 2)])
        for pair in ((2, 1), (1, 1), (0, 1), (1, 0), (1, 3), (2, 4), (4, 5), (6, 7), (7, 8), (0, 0), (6, 0), (0, 6),
                     (-1, 2), (1, -7), (1, 20), (9, 10), (-9, -8)):
            with self.subTest(pair=pair):
                self.assertRaises(InvalidStep, machine.interact, pair)
        self.assertEqual(state(machine), before)

    def test_pairs_without_a_rule(self):
        for text in ("root a; app/1 p b a; lam/0 p c c; num=1 b", "root a; fan/1 p b a; lam/0 p c c; num=1 b",
                     "root a; op/0=+ p b a; pair/0 p c c; num=1 b", "root a; split/0 p b a; lam/0 p c c; num=1 b"):
            machine = CellMachine(wired(text), capacity=9)
            before = state(machine)
            self.assertEqual(machine.pairs(), [(1, 2)])
            self.assertRaises(InvalidStep, machine.interact, (1, 2))
            self.assertRaises(InvalidStep, machine.run)
            self.assertEqual(state(machine), before)

    def test_cells_that_have_been_freed(self):
        machine = machine_for("(\\x:Int. x + 1) 2", 9)
        machine.interact((1, 2))
        self.assertEqual(machine.pairs(), [(3, 4)])
        for pair in ((1, 2), (1, 6), (2, 6)):
            self.assertRaises(InvalidStep, machine.interact, pair)

    def test_the_root_is_in_no_pair(self):
        machine = machine_for("5", 2)
        self.assertEqual(machine.pairs(), [])
        self.assertRaises(InvalidStep, machine.interact, (0, 1))

    def test_a_missing_rule_is_named_before_missing_cells(self):
        net = wired("root a; pair/0 a b c; fan/1 p b c; lam/1 p d d")
        self.assertRaises(InvalidStep, CellMachine(net, capacity=4).interact, (2, 3))


class Running(unittest.TestCase):
    def test_the_same_end_and_counts_as_the_net(self):
        choices = random.Random(124)
        for term in made(40):
            net = net_of(term)
            end = net.copied()
            counts = run_net(end)
            drawn = [choices.randrange(-1000, 1000) for _ in range(sum(counts))]
            for chosen in ((), drawn, drawn[:len(drawn) // 2], LAST, tuple(drawn)):
                machine = CellMachine(net, capacity=len(net) + 1000)
                found = machine.run(choices=chosen)
                self.assertEqual(found, counts)
                self.assertIsInstance(found, tuple)
                self.assertTrue(same_net(machine.to_net(), end))
                self.assertEqual(machine.pairs(), [])

    def test_which_pair_a_choice_takes(self):
        text = "root a; op/0=+ h b a; op/0=- e c b; op/0=* f d c; num=4 d; num=1 e; num=2 f; num=3 h"
        for choice, at in ((0, 0), (1, 1), (2, 2), (3, 0), (-1, 2), (-3, 0), (10 ** 20, 1)):
            machine, slow = CellMachine(wired(text), capacity=9), SlowMachine(wired(text), 9)
            self.assertEqual(len(machine.pairs()), 3)
            self.assertRaises(TooLong, machine.run, choices=[choice], most=1)
            slow.interact(slow.pairs()[at])
            self.assertEqual(state(machine), state(slow))

    def test_most(self):
        for text, steps in (("(\\x:Int. x) 5", 1), ("1 + 2", 2), ("let f = !(\\x:Int. x) in !(f (f 1))", 4)):
            net = net_of(read_term(text))
            wanted = CellMachine(net, capacity=30).run()
            self.assertEqual(sum(wanted), steps)
            for choices in ((), LAST):
                self.assertEqual(CellMachine(net, capacity=30).run(choices=choices, most=steps), wanted)
                for most in range(steps):
                    machine = CellMachine(net, capacity=30)
                    self.assertRaises(TooLong, machine.run, choices=choices, most=most)
                    self.assertEqual(sum(machine.run(most=steps - most)), steps - most)
        self.assertEqual(machine_for("1", 2).run(most=0), (0, 0, 0, 0, 0))

    def test_most_of_0_changes_nothing(self):
        machine = machine_for("1 + 2", 6)
        before = state(machine)
        self.assertRaises(TooLong, machine.run, most=0)
        self.assertEqual(state(machine), before)

    def test_the_default(self):
        total = ("num", 0)
        for _ in range(5001):
            total = ("op", "+", total, ("num", 1))
        machine = CellMachine(net_of(total), capacity=20000)
        self.assertRaises(TooLong, machine.run)
        self.assertEqual(machine.run(), (0, 0, 0, 0, 2))

    def test_a_pair_without_a_rule_that_is_not_taken(self):
        machine = CellMachine(wired("root a; app/1 p b a; lam/0 p c c; op1/0=+1 q b; num=2 q"), capacity=5)
        self.assertRaises(TooLong, machine.run, choices=[1], most=1)
        self.assertRaises(InvalidStep, machine.run)

    def test_sharing(self):
        net = net_of(applied(20, read_term("\\x:Int. let y = x in y + y"), ("num", 1)))
        machine = CellMachine(net, capacity=200)
        self.assertEqual(machine.run(), run_net(net))
        self.assertEqual(canonical_text(machine.to_net()), f"root 1.0; num={2 ** 20} 0.0")


class Values(unittest.TestCase):
    def test_the_given_net_does_not_change(self):
        net = net_of(doubled(2))
        before = plain(net)
        machine = CellMachine(net, capacity=100)
        machine.run()
        self.assertEqual(plain(net), before)
        self.assertEqual(net.pairs(), net_of(doubled(2)).pairs())

    def test_every_call_returns_a_new_list(self):
        machine = machine_for("let x = 5 in (x, x)", 9)
        before = state(machine)
        for name in ("memory", "numbers", "signs", "free_cells", "pairs"):
            found = getattr(machine, name)()
            self.assertIsInstance(found, list)
            found.clear()
        self.assertEqual(state(machine), before)
        for pair in machine.pairs():
            self.assertIsInstance(pair, tuple)

    def test_names_are_needed(self):
        net = net_of(read_term("1 + 2"))
        with self.assertRaises(TypeError):
            CellMachine(net, 5)
        with self.assertRaises(TypeError):
            CellMachine(net)
        with self.assertRaises(TypeError):
            CellMachine(net, capacity=9).run([])
