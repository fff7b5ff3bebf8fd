"""Plain reduction of core terms: points 17, 19 and 20."""

import random
import unittest

from sharenet.core import core_of, core_text, is_closed
from sharenet.errors import InvalidStep, TooLong
from sharenet.plain import contract, normal_form, normal_steps, redexes
from sharenet.reader import read_term
from tests import reductions
from tests.reductions import CoreMaker, with_labels, without_labels
from tests.sharing import applied, made, numeral

INT = ("int",)
ONE, TWO = ("num", 1), ("num", 2)
ADDED = ("op", "+", ONE, TWO)


def var(k):
    return ("var", k)


def lam(body):
    return ("lam", body)


def app(function, argument):
    return ("app", function, argument)


def pair(first, second):
    return ("pair", first, second)


def fst(part):
    return ("fst", part)


def snd(part):
    return ("snd", part)


BETA = app(lam(var(0)), ONE)
OMEGA = app(lam(app(var(0), var(0))), lam(app(var(0), var(0))))


class Redexes(unittest.TestCase):
    def expect(self, core, *paths):
        found = redexes(core)
        self.assertIsInstance(found, list)
        self.assertEqual(found, list(paths))
        for path in found:
            self.assertIsInstance(path, tuple)

    def test_every_sort_at_the_root(self):
        self.expect(BETA, ())
        self.expect(fst(pair(ONE, TWO)), ())
        self.expect(snd(pair(ONE, TWO)), ())
        for sign in "+-*":
            self.expect(("op", sign, ONE, ("num", -2)), ())

    def test_what_is_no_redex(self):
        for core in (var(0), ONE, lam(var(0)), pair(ONE, TWO), app(var(0), ONE), app(ONE, lam(var(0))),
                     app(pair(ONE, TWO), ONE), app(app(var(0), ONE), TWO), fst(var(0)), snd(lam(var(0))),
                     fst(fst(var(0))), snd(ONE), fst(lam(pair(ONE, TWO))), ("op", "+", ONE, var(0)),
                     ("op", "+", var(0), ONE), ("op", "+", ONE, lam(ONE)), ("op", "+", pair(ONE, TWO), ONE),
                     app(fst(var(0)), ONE), fst(app(var(0), pair(ONE, TWO)))):
            self.expect(core)

    def test_every_sort_below_every_part(self):
        for core in (BETA, fst(pair(ONE, var(7))), snd(pair(var(7), ONE)), ADDED):
            self.expect(lam(core), (0,))
            self.expect(app(core, var(0)), (0,))
            self.expect(app(var(0), core), (1,))
            self.expect(pair(core, ONE), (0,))
            self.expect(pair(ONE, core), (1,))
            self.expect(fst(core), (0,))
            self.expect(snd(core), (0,))
            self.expect(("op", "-", core, var(0)), (0,))
            self.expect(("op", "-", var(0), core), (1,))
            self.expect(lam(lam(pair(var(0), fst(app(var(1), core))))), (0, 0, 1, 0, 1))

    def test_redexes_inside_one_another(self):
        self.expect(app(lam(ADDED), ADDED), (), (0, 0), (1,))
        self.expect(app(lam(BETA), BETA), (), (0, 0), (1,))
        self.expect(fst(pair(ADDED, BETA)), (), (0, 0), (0, 1))
        self.expect(("op", "*", ADDED, ADDED), (0,), (1,))
        self.expect(app(app(lam(BETA), ADDED), fst(pair(snd(pair(ONE, ADDED)), ONE))),
                    (0,), (0, 0, 0), (0, 1), (1,), (1, 0, 0), (1, 0, 0, 0, 1))

    def test_the_order_is_that_of_the_nodes_and_not_of_the_length(self):
        self.expect(pair(pair(ONE, pair(ADDED, ONE)), ADDED), (0, 1, 0), (1,))
        self.expect(pair(lam(lam(lam(ADDED))), pair(BETA, ADDED)), (0, 0, 0, 0), (1, 0), (1, 1))

    def test_made_core_terms(self):
        maker = CoreMaker(1)
        for size in list(range(1, 40)) * 10:
            core = maker.core(size)
            self.expect(core, *reductions.redexes(with_labels(core)))

    def test_every_call_returns_a_new_list(self):
        redexes(BETA).append("changed")
        self.expect(BETA, ())

    def test_a_deep_core_term(self):
        core = ADDED
        for _ in range(5000):
            core = ("op", "+", core, ONE)
        self.expect(core, (0,) * 5000)


class Contracting(unittest.TestCase):
    def expect(self, core, path, wanted):
        self.assertEqual(contract(core, path), wanted)

    def test_number_redexes(self):
        for sign, first, second, result in (("+", 2, 3, 5), ("-", 2, 3, -1), ("*", 2, 3, 6), ("-", -2, -3, 1),
                                            ("*", -2, 3, -6), ("+", -2, -3, -5), ("*", 10 ** 30, 10 ** 30, 10 ** 60),
                                            ("-", 0, 10 ** 40, -10 ** 40)):
            self.expect(("op", sign, ("num", first), ("num", second)), (), ("num", result))

    def test_pair_redexes(self):
        self.expect(fst(pair(ONE, TWO)), (), ONE)
        self.expect(snd(pair(ONE, TWO)), (), TWO)
        self.expect(fst(pair(lam(var(3)), BETA)), (), lam(var(3)))
        self.expect(snd(pair(BETA, app(var(1), var(0)))), (), app(var(1), var(0)))

    def test_a_variable_that_occurs_never_once_and_often(self):
        self.expect(app(lam(TWO), ONE), (), TWO)
        self.expect(app(lam(lam(var(0))), ONE), (), lam(var(0)))
        self.expect(BETA, (), ONE)
        self.expect(app(lam(lam(var(1))), ONE), (), lam(ONE))
        self.expect(app(lam(pair(var(0), pair(var(0), lam(var(1))))), ONE), (), pair(ONE, pair(ONE, lam(ONE))))

    def test_arguments_with_free_variables(self):
        self.expect(app(lam(var(0)), var(4)), (), var(4))
        self.expect(app(lam(lam(pair(var(0), var(1)))), var(0)), (), lam(pair(var(0), var(1))))
        self.expect(app(lam(lam(lam(var(2)))), app(var(0), lam(app(var(0), var(1))))), (),
                    lam(lam(app(var(2), lam(app(var(0), var(3)))))))
        self.expect(app(lam(pair(var(0), lam(pair(var(0), var(1))))), lam(var(1))), (),
                    pair(lam(var(1)), lam(pair(var(0), lam(var(2))))))

    def test_free_variables_of_the_body(self):
        self.expect(app(lam(var(1)), ONE), (), var(0))
        self.expect(app(lam(lam(pair(var(2), pair(var(1), var(0))))), ONE), (), lam(pair(var(1), pair(ONE, var(0)))))
        self.expect(app(lam(app(var(3), var(0))), var(0)), (), app(var(2), var(0)))

    def test_below_functions(self):
        self.expect(lam(app(lam(pair(var(0), var(1))), var(0))), (0,), lam(pair(var(0), var(0))))
        self.expect(lam(lam(app(lam(lam(pair(var(1), var(3)))), var(1)))), (0, 0), lam(lam(lam(pair(var(2), var(2))))))
        self.expect(lam(app(var(0), fst(pair(var(0), ONE)))), (0, 1), lam(app(var(0), var(0))))

    def test_only_the_redex_at_the_path_is_contracted(self):
        self.expect(pair(ADDED, ADDED), (0,), pair(("num", 3), ADDED))
        self.expect(pair(ADDED, ADDED), (1,), pair(ADDED, ("num", 3)))
        self.expect(app(lam(pair(var(0), ADDED)), BETA), (), pair(BETA, ADDED))
        self.expect(app(lam(pair(var(0), ADDED)), BETA), (0, 0, 1), app(lam(pair(var(0), ("num", 3))), BETA))
        self.expect(app(lam(pair(var(0), ADDED)), BETA), (1,), app(lam(pair(var(0), ADDED)), ONE))

    def test_paths_to_what_is_no_redex(self):
        core = app(lam(pair(var(0), ADDED)), fst(var(0)))
        for path in ((0,), (0, 0), (0, 0, 0), (1,), (1, 0), (0, 0, 1, 0), (0, 0, 1, 1)):
            self.assertRaises(InvalidStep, contract, core, path)
        for core in (var(0), ONE, lam(BETA), pair(BETA, ADDED), fst(BETA)):
            self.assertRaises(InvalidStep, contract, core, ())

    def test_paths_through_a_part_that_a_node_does_not_have(self):
        for core, path in ((BETA, (2,)), (BETA, (-1,)), (BETA, (-2, 0)), (ADDED, (3,)), (ADDED, (0, 0)), (ONE, (0,)),
                           (var(0), (0,)), (lam(ADDED), (1,)), (lam(ADDED), (-1,)), (fst(ADDED), (1,)),
                           (snd(ADDED), (-1,)), (pair(ADDED, ADDED), (2,)), (pair(ADDED, ADDED), (-1,)),
                           (pair(ADDED, ADDED), (0, 0, 0, 0)), (lam(ADDED), (0, 2))):
            with self.subTest(core=core_text(core), path=path):
                self.assertRaises(InvalidStep, contract, core, path)

    def test_made_core_terms(self):
        maker = CoreMaker(2)
        for size in list(range(3, 40)) * 10:
            core = maker.core(size)
            for path in redexes(core):
                wanted, _ = reductions.contract(with_labels(core), path)
                self.expect(core, path, without_labels(wanted))

    def test_a_deep_core_term(self):
        core, wanted = app(lam(var(0)), var(0)), var(0)
        for _ in range(3000):
            core, wanted = lam(core), lam(wanted)
        self.assertEqual(core_text(contract(core, (0,) * 3000)), core_text(wanted))


class NormalForms(unittest.TestCase):
    def expect(self, core, wanted, *steps):
        self.assertEqual(normal_form(core), wanted)
        self.assertEqual(normal_steps(core), steps)
        self.assertIsInstance(normal_steps(core), tuple)

    def test_small_ones(self):
        self.expect(ONE, ONE, 0, 0, 0)
        self.expect(lam(var(0)), lam(var(0)), 0, 0, 0)
        self.expect(var(2), var(2), 0, 0, 0)
        self.expect(BETA, ONE, 1, 0, 0)
        self.expect(fst(pair(ONE, TWO)), ONE, 0, 1, 0)
        self.expect(snd(pair(ONE, TWO)), TWO, 0, 1, 0)
        self.expect(("op", "*", ADDED, ("op", "-", ONE, ADDED)), ("num", -6), 0, 0, 4)
        self.expect(lam(app(lam(("op", "+", var(0), var(0))), ("op", "*", var(0), ADDED))),
                    lam(("op", "+", ("op", "*", var(0), ("num", 3)), ("op", "*", var(0), ("num", 3)))), 1, 0, 2)

    def test_redexes_that_come_from_contractions_around_and_below(self):
        self.expect(app(fst(pair(lam(app(var(0), TWO)), ONE)), lam(snd(pair(ONE, var(0))))), TWO, 2, 2, 0)
        self.expect(fst(app(lam(pair(var(0), ONE)), ADDED)), ("num", 3), 1, 1, 1)
        self.expect(("op", "+", fst(pair(ONE, TWO)), snd(pair(ONE, TWO))), ("num", 3), 0, 2, 1)
        self.expect(app(app(lam(lam(var(1))), ADDED), OMEGA), ("num", 3), 2, 0, 1)
        self.expect(app(app(lam(var(0)), lam(var(0))), pair(BETA, BETA)), pair(ONE, ONE), 4, 0, 0)

    def test_the_first_redex_is_taken(self):
        self.expect(app(lam(ONE), ADDED), ONE, 1, 0, 0)
        self.expect(app(lam(ONE), OMEGA), ONE, 1, 0, 0)
        self.expect(fst(pair(ONE, OMEGA)), ONE, 0, 1, 0)
        self.expect(app(lam(pair(var(0), var(0))), ADDED), pair(("num", 3), ("num", 3)), 1, 0, 2)
        self.expect(app(lam(app(lam(ONE), var(0))), ADDED), ONE, 2, 0, 0)

    def test_most(self):
        for core, steps in ((BETA, 1), (ADDED, 1), (fst(pair(ADDED, ONE)), 2), (app(lam(pair(var(0), var(0))), ADDED), 3),
                            (core_of(applied(5, read_term("\\x:Int. x + 1"), ONE)), 12)):
            self.assertEqual(sum(normal_steps(core, most=steps)), steps)
            self.assertEqual(normal_form(core, most=steps), normal_form(core))
            for most in range(steps):
                self.assertRaises(TooLong, normal_form, core, most=most)
                self.assertRaises(TooLong, normal_steps, core, most=most)

    def test_most_of_0_and_the_default(self):
        self.assertEqual(normal_form(lam(var(0)), most=0), lam(var(0)))
        self.assertEqual(normal_steps(lam(var(0)), most=0), (0, 0, 0))
        self.assertRaises(TooLong, normal_form, OMEGA)
        self.assertRaises(TooLong, normal_steps, OMEGA)
        additions = ONE
        for _ in range(10000):
            additions = ("op", "+", additions, ONE)
        self.assertEqual(normal_form(additions), ("num", 10001))
        self.assertEqual(normal_steps(additions), (0, 0, 10000))
        self.assertRaises(TooLong, normal_form, ("op", "+", additions, ONE))
        self.assertRaises(TooLong, normal_steps, ("op", "+", additions, ONE))

    def test_most_is_given_by_its_name(self):
        with self.assertRaises(TypeError):
            normal_form(ONE, 5)
        with self.assertRaises(TypeError):
            normal_steps(ONE, 5)

    def test_contracting_the_first_redex_again_and_again(self):
        for term in made(50, 20):
            core = core_of(term)
            steps, now = [0, 0, 0], core
            while redexes(now):
                node = now
                for number in redexes(now)[0]:
                    node = [part for part in node if isinstance(part, tuple)][number]
                steps[{"app": 0, "fst": 1, "snd": 1, "op": 2}[node[0]]] += 1
                now = contract(now, redexes(now)[0])
            self.expect(core, now, *steps)
            self.assertTrue(is_closed(now))

    def test_every_other_order_leads_to_the_same_one(self):
        choices = random.Random(21)
        for term in made(40, 20):
            wanted = normal_form(core_of(term))
            for _ in range(3):
                now = core_of(term)
                while redexes(now):
                    now = contract(now, choices.choice(redexes(now)))
                self.assertEqual(now, wanted)

    def test_numerals(self):
        core = core_of(applied(20, read_term("\\x:Int. x * 2"), ONE))
        self.expect(core, ("num", 2 ** 20), 22, 0, 20)
        core = core_of(("app", numeral(3), ("box", ("lam", "x", INT, ("var", "x")))))
        self.expect(core, lam(var(0)), 4, 0, 0)

    def test_a_normal_form_that_is_too_large_to_be_written(self):
        core = var(0)
        for _ in range(90):
            core = app(lam(core), ("op", "+", var(0), var(0)))
        self.assertEqual(normal_steps(lam(core)), (90, 0, 0))
        node, depth = normal_form(lam(core)), 0
        while node[0] != "var":
            node, depth = node[-1], depth + 1
        self.assertEqual((node, depth), (var(0), 91))

    def test_functions_that_are_copied_below_others(self):
        core = core_of(read_term("\\a:!Int. let b = a in let f = !(\\x:Int. \\y:Int. x + b - y) in "
                                 "!(\\u:Int. f (f u 1) (f 2 b))"))
        self.assertEqual(core_text(normal_form(core)), "^^((((#0 + #1) - 1) + #1) - ((2 + #1) - #1))")
