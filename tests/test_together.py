"""All parts of the program that reduce a term, on the same terms: points 20 to 24, 28, 30 to 59."""

import random
import unittest

from sharenet.building import net_of
from sharenet.canonical import canonical_text, read_net, same_net
from sharenet.cells import CellMachine
from sharenet.checking import check_program, check_term
from sharenet.core import core_of, core_text, is_closed
from sharenet.crew import Crew
from sharenet.errors import SharenetError, TooLong
from sharenet.evaluating import Evaluator
from sharenet.families import family_sequence, work_of
from sharenet.history import History
from sharenet.kinds import kind_text
from sharenet.linking import linked
from sharenet.needed import run_needed, value_known
from sharenet.needing import need_normal
from sharenet.numerals import fibonacci_term
from sharenet.plain import contract, normal_form, normal_steps, redexes
from sharenet.readback import read_back
from sharenet.reader import read_program, read_term
from sharenet.records import check_record, record_of
from sharenet.rounds import depths_of, run_rounds
from sharenet.rules import interact
from sharenet.running import RULES, run_net
from sharenet.simplifying import is_simple, simplified
from sharenet.suspending import dump, moved, restored
from sharenet.wirekinds import net_fits, plain_kind
from sharenet.writer import write_program, write_term
from tests.sharing import INT, PAIR, applied, doubled, made, numeral

FIBONACCI = "\\p:(Int, Int). let (a, b) = p in let c = b in (c, a + c)"
TEXTS = [
    "5", "!5", "1 + 2 * 3 - 4", "\\x:Int. x", "(\\x:Int. x + 1) 2", "(1 + 2, (3, !4))", "let x = 1 + 2 in x * x",
    "let x = !(1 + 2) in !(x * x)", "let (x, y) = (1 + 2, 3) in (y, x)", "let f = !(\\x:Int. x) in !(f (f 1))",
    "\\f:!(Int -> Int). let g = f in !(\\x:Int. g (g x))", "let v = !((\\x:Int. x) 1) in !(v + v)",
    "\\x:Int. let y = x in y + y * 2", "(\\x:!Int. let y = x in !(y + y)) !3", "let x = !!7 in !(let y = x in !(y - y))",
    "let f = !(\\x:Int. let y = x in y * y) in !(f (f (f 2)))",
    "let p = !(\\x:Int. x + 1, \\y:Int. y * 2) in !(let (f, g) = p in let (h, k) = p in f (k (g (h 5))))",
    "(\\f:(Int -> Int) -> Int. f (\\x:Int. x + 1)) (\\g:Int -> Int. g 4)",
    "let f = !(\\g:Int -> Int. \\x:Int. g x + 1) in !(f (f (\\x:Int. x * 2)) 3)",
    f"let f = !({FIBONACCI}) in !(f (f (f (0, 1))))", f"\\q:(Int, Int). ({FIBONACCI}) (({FIBONACCI}) q)",
]
TERMS = [fibonacci_term(5), applied(7, read_term("\\x:Int. let y = x in y + y"), ("num", 1)), doubled(4),
         applied(9, read_term(FIBONACCI), ("pair", ("num", 0), ("num", 1)), PAIR),
         ("app", numeral(3), ("app", numeral(2), ("box", ("lam", "x", INT, ("op", "*", ("var", "x"), ("num", 2))))))]


class Together(unittest.TestCase):
    def check(self, term, choices):
        core, net = core_of(term), net_of(term)
        form, steps = normal_form(core), normal_steps(core)
        self.assertEqual(read_back(net), core)
        self.assertTrue(is_closed(form))
        self.assertEqual(redexes(form), [])
        first, other, needed = net.copied(), net.copied(), net.copied()
        counts = run_net(first)
        drawn = [choices.randrange(-500, 500) for _ in range(sum(counts))]
        self.assertEqual(run_net(other, choices=drawn), counts)
        self.assertTrue(same_net(first, other))
        self.assertTrue(same_net(first, read_net(canonical_text(first))))
        self.assertEqual(read_back(first), form)
        for some, many in zip(run_needed(needed), counts):
            self.assertLessEqual(some, many)
        self.assertTrue(value_known(needed))
        self.check_families(term, steps, counts, drawn)
        record = record_of(term, choices=drawn)
        self.assertEqual(len(record), sum(counts))
        self.assertTrue(check_record(term, record, form))
        self.assertEqual(check_record(term, record, core), core == form)

    def check_machines(self, term, choices):
        """Cells, crews, rounds, histories and suspended machines end as the net does, with the same counts."""
        net = net_of(term)
        end = net.copied()
        counts = run_net(end)
        drawn = [choices.randrange(-500, 500) for _ in range(sum(counts))]
        machine = CellMachine(net, capacity=len(net) + 600)
        self.assertEqual(machine.run(choices=drawn), counts)
        self.assertTrue(same_net(machine.to_net(), end))
        self.assertTrue(same_net(restored(dump(machine)).to_net(), end))
        self.check_suspended(net, end, counts, drawn)
        for workers in (1, 3):
            crew = Crew(net, workers=workers)
            self.assertEqual(crew.run(turns=drawn), counts)
            self.assertTrue(same_net(crew.present_net(), end))
        other, history = net.copied(), History(net)
        sizes = run_rounds(other)
        self.assertTrue(same_net(other, end))
        depths = depths_of(net.copied(), choices=drawn)
        self.assertEqual([depths.count(depth + 1) for depth in range(len(sizes))], sizes)
        rules = [history.forward(choice) for choice in drawn]
        self.assertEqual(tuple(rules.count(rule) for rule in RULES), counts)
        self.assertIsNone(history.forward(0))
        self.assertTrue(same_net(history.present_net(), end))
        for ways in (depths_of, run_rounds, run_net):
            if sum(counts) > 0:
                self.assertRaises(TooLong, ways, net.copied(), most=sum(counts) - 1)
            ways(net.copied(), most=sum(counts))

    def check_suspended(self, net, end, counts, drawn):
        machine, rules = CellMachine(net, capacity=len(net) + 600), []
        for number, choice in enumerate(drawn):
            pairs = machine.pairs()
            rules.append(machine.interact(pairs[choice % len(pairs)]))
            if choice % 3 == 0:
                machine = restored(dump(machine))
            elif choice % 3 == 1 and number % 10 == 0:
                machine = moved(machine, capacity=len(net) + 600)
        self.assertEqual(tuple(rules.count(rule) for rule in RULES), counts)
        self.assertEqual(machine.pairs(), [])
        self.assertTrue(same_net(machine.to_net(), end))

    def check_meanings(self, term):
        """Kinds, simplification, reduction by need and evaluation."""
        kind, form = check_term(term), normal_form(core_of(term))
        net = net_of(term)
        counts = run_net(net)
        for some in (net, net_of(term)):
            self.assertTrue(net_fits(some, plain_kind(kind)))
        core, steps = need_normal(term)
        self.assertEqual(core, form)
        self.assertGreaterEqual(steps, counts[0])
        simple = simplified(term)
        self.assertTrue(is_simple(simple))
        self.assertEqual(check_term(simple), kind)
        self.assertEqual(need_normal(simple)[0], form)
        for given in (False, True):
            evaluator = Evaluator(simple=given, most=sum(counts))
            self.assertEqual(evaluator.run_text(write_program([("main", kind, term)])), form)
            self.assertEqual(evaluator.counts, run_net(net_of(simple)) if given else counts)
            for some, many in zip(evaluator.counts[:2], counts):
                self.assertLessEqual(some, many)

    def check_families(self, term, steps, counts, drawn):
        if sum(steps) > 500:
            return
        self.assertEqual(work_of(term), counts[:2])
        sequence = family_sequence(term)
        self.assertEqual(len(sequence), sum(steps))
        self.assertEqual(sequence.count(-1), steps[2])
        self.assertEqual(len(set(sequence) - {-1}), sum(counts[:2]))
        self.assertEqual(len(set(family_sequence(term, choices=drawn)) - {-1}), sum(counts[:2]))

    def test_terms_of_every_form(self):
        choices = random.Random(110)
        for term in [read_term(text) for text in TEXTS] + TERMS:
            with self.subTest(write_term(term)):
                check_term(term)
                self.check(term, choices)
                self.check_machines(term, choices)
                self.check_meanings(term)

    def test_made_terms(self):
        choices = random.Random(111)
        for term in made(50):
            with self.subTest(write_term(term)):
                self.check(term, choices)
                self.check_machines(term, choices)
                self.check_meanings(term)

    def test_some_normal_forms(self):
        for text, wanted in (("let f = !(\\x:Int. let y = x in y * y) in !(f (f (f 2)))", "256"),
                             ("let p = !(\\x:Int. x + 1, \\y:Int. y * 2) in "
                              "!(let (f, g) = p in let (h, k) = p in f (k (g (h 5))))", "25"),
                             (f"let f = !({FIBONACCI}) in !(f (f (f (0, 1))))", "<2, 3>"),
                             ("\\f:!(Int -> Int). let g = f in !(\\x:Int. g (g x))", "^^(#1 (#1 #0))")):
            net = net_of(read_term(text))
            run_net(net)
            self.assertEqual(core_text(read_back(net)), wanted)

    def test_every_moment_is_a_core_term_to_which_contractions_lead(self):
        for text in TEXTS[:17]:
            term = read_term(text)
            net, reached = net_of(term), core_of(term)
            for first, second in record_of(term):
                interact(net, self.named(net, first, second))
                reached = self.led_to(reached, read_back(net))
            self.assertEqual(reached, normal_form(core_of(term)))

    def named(self, net, first, second):
        order = net.reached()
        return tuple(sorted((order[first], order[second])))

    def led_to(self, core, wanted):
        """A core term that contractions of a few redexes make of a core term; it must be the wanted one."""
        found = [core]
        for core in found:
            if core == wanted:
                return core
            found.extend(contract(core, path) for path in redexes(core) if len(found) < 3000)
        self.fail(core_text(wanted))

    def test_a_program(self):
        program = read_program(f"""
            def step : (Int, Int) -> (Int, Int) = {FIBONACCI};
            def two : !((Int, Int) -> (Int, Int)) -> !((Int, Int) -> (Int, Int)) =
                \\f:!((Int, Int) -> (Int, Int)). let g = f in !(\\x:(Int, Int). g (g x));
            def main : !(Int, Int) = let f = two (two (two !step)) in !(f (0, 1));
        """)
        check_program(program)
        term = linked(program, "main")
        self.assertEqual(kind_text(check_term(term)), "!(Int, Int)")
        net = net_of(term)
        counts = dict(zip(RULES, run_net(net)))
        self.assertEqual(core_text(read_back(net)), "<21, 34>")
        self.assertEqual((counts["beta"], counts["unpair"]), work_of(term))

    def test_the_errors_are_those_of_the_program(self):
        for function in (core_of, net_of, work_of, family_sequence, record_of, simplified, need_normal):
            self.assertRaises(SharenetError, function, read_term("x"))
            self.assertRaises(ValueError, function, read_term("1 2"))
