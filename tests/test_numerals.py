"""Numerals: point 44."""

import unittest

from sharenet.building import net_of
from sharenet.checking import check_term
from sharenet.core import core_of, core_text
from sharenet.errors import TooLarge
from sharenet.kinds import kind_text
from sharenet.numerals import applied_numeral, fibonacci_term, numeral, numeral_product, numeral_sum
from sharenet.plain import normal_form
from sharenet.readback import read_back
from sharenet.reader import read_kind, read_term
from sharenet.running import run_net
from sharenet.writer import write_term
from tests import sharing

INT = ("int",)
KINDS = [INT, ("pair", INT, INT), ("fun", INT, INT), ("bang", INT), ("fun", ("bang", INT), ("pair", INT, INT))]
FIBONACCI = "\\p:(Int, Int). let (a, b) = p in let c = b in (c, a + c)"


def numeral_kind(kind):
    """The kind N(F)."""
    step = ("bang", ("fun", kind, kind))
    return ("fun", step, step)


def core_numeral(count):
    core = ("var", 0)
    for _ in range(count):
        core = ("app", ("var", 1), core)
    return ("lam", ("lam", core))


def result(term):
    """What is read back at the end of the reduction of a term."""
    net = net_of(term)
    run_net(net, most=100000)
    return read_back(net)


class Numerals(unittest.TestCase):
    def test_the_terms(self):
        self.assertEqual(write_term(numeral(1, INT)), "\\f:!(Int -> Int). let g = f in !(\\x:Int. g x)")
        self.assertEqual(write_term(numeral(3, INT)), "\\f:!(Int -> Int). let g = f in !(\\x:Int. g (g (g x)))")
        self.assertEqual(write_term(numeral(2, read_kind("Int -> Int"))),
                         "\\f:!((Int -> Int) -> Int -> Int). let g = f in !(\\x:Int -> Int. g (g x))")
        self.assertEqual(numeral(1, INT), ("lam", "f", ("bang", ("fun", INT, INT)), (
            "let", "g", ("var", "f"), ("box", ("lam", "x", INT, ("app", ("var", "g"), ("var", "x")))))))

    def test_all_counts(self):
        for count in range(1, 61):
            for kind in KINDS:
                term = numeral(count, kind)
                text = kind_text(("bang", ("fun", kind, kind)))
                body = "g (" * (count - 1) + "g x" + ")" * (count - 1)
                self.assertEqual(write_term(term), f"\\f:{text}. let g = f in !(\\x:{kind_text(kind)}. {body})")
                self.assertEqual(check_term(term), numeral_kind(kind))
                self.assertEqual(core_of(term), core_numeral(count))
                self.assertEqual(term, sharing.numeral(count, kind))

    def test_counts_that_are_too_small_or_too_large(self):
        for count in (0, 61, -1, -60, 100, 10 ** 30, -10 ** 30, 10 ** 5000):
            for kind in KINDS:
                self.assertRaises(TooLarge, numeral, count, kind)
        self.assertEqual(check_term(numeral(60, INT)), numeral_kind(INT))


class Sums(unittest.TestCase):
    def test_the_term(self):
        one, two = numeral(1, INT), numeral(2, INT)
        text = write_term(numeral_sum(one, two, INT))
        self.assertEqual(text, f"\\f:!(Int -> Int). let g = f in let h = ({write_term(one)}) !g in "
                               f"let k = ({write_term(two)}) !g in !(\\x:Int. h (k x))")
        self.assertEqual(numeral_sum(("num", 1), ("num", 2), INT), read_term(
            "\\f:!(Int -> Int). let g = f in let h = 1 !g in let k = 2 !g in !(\\x:Int. h (k x))"))

    def test_what_it_is(self):
        for kind in KINDS:
            for first, second in ((1, 1), (2, 3), (5, 1), (3, 3)):
                term = numeral_sum(numeral(first, kind), numeral(second, kind), kind)
                self.assertEqual(check_term(term), numeral_kind(kind))
                self.assertEqual(normal_form(core_of(term)), core_numeral(first + second))
                self.assertEqual(result(term), core_numeral(first + second))

    def test_a_sum_has_no_limit(self):
        term = numeral_sum(numeral(60, INT), numeral(60, INT), INT)
        self.assertEqual(result(term), core_numeral(120))


class Products(unittest.TestCase):
    def test_the_term(self):
        one, two = numeral(1, INT), numeral(2, INT)
        text = write_term(numeral_product(one, two, INT))
        self.assertEqual(text, f"\\f:!(Int -> Int). ({write_term(one)}) (({write_term(two)}) f)")
        self.assertEqual(numeral_product(("num", 1), ("num", 2), KINDS[1]), read_term(
            "\\f:!((Int, Int) -> (Int, Int)). 1 (2 f)"))

    def test_what_it_is(self):
        for kind in KINDS:
            for first, second in ((1, 1), (2, 3), (5, 1), (3, 3)):
                term = numeral_product(numeral(first, kind), numeral(second, kind), kind)
                self.assertEqual(check_term(term), numeral_kind(kind))
                self.assertEqual(normal_form(core_of(term)), core_numeral(first * second))
                self.assertEqual(result(term), core_numeral(first * second))

    def test_sums_of_products(self):
        six = numeral_product(numeral(2, INT), numeral(3, INT), INT)
        seven = numeral_sum(six, numeral(1, INT), INT)
        term = numeral_product(seven, six, INT)
        self.assertEqual(check_term(term), numeral_kind(INT))
        self.assertEqual(result(term), core_numeral(42))


class Applied(unittest.TestCase):
    def test_the_term(self):
        self.assertEqual(applied_numeral(("num", 1), ("num", 2), ("num", 3)), read_term("let r = 1 !2 in !(r 3)"))
        term = applied_numeral(numeral(2, INT), read_term("\\x:Int. x + 1"), ("num", 3))
        self.assertEqual(write_term(term), f"let r = ({write_term(numeral(2, INT))}) !(\\x:Int. x + 1) in !(r 3)")
        self.assertEqual(check_term(term), ("bang", INT))

    def test_how_often_the_function_is_applied(self):
        step, double = read_term("\\x:Int. x + 3"), read_term("\\x:Int. let y = x in y + y")
        for count in (1, 2, 7, 60):
            self.assertEqual(result(applied_numeral(numeral(count, INT), step, ("num", 1))), ("num", 1 + 3 * count))
            self.assertEqual(result(applied_numeral(numeral(count, INT), double, ("num", 1))), ("num", 2 ** count))
        four = numeral_sum(numeral(3, INT), numeral(1, INT), INT)
        nine = numeral_product(numeral(3, INT), numeral(3, INT), INT)
        self.assertEqual(result(applied_numeral(four, step, ("num", 1))), ("num", 13))
        self.assertEqual(result(applied_numeral(nine, double, ("num", 1))), ("num", 512))
        self.assertEqual(result(applied_numeral(numeral_sum(four, nine, INT), step, ("num", 0))), ("num", 39))


class FibonacciNumbers(unittest.TestCase):
    def test_the_term(self):
        pairs = read_kind("(Int, Int)")
        for count in (1, 2, 60):
            self.assertEqual(fibonacci_term(count), applied_numeral(
                numeral(count, pairs), read_term(FIBONACCI), ("pair", ("num", 0), ("num", 1))))
            self.assertEqual(check_term(fibonacci_term(count)), ("bang", pairs))

    def test_the_numbers(self):
        first, second = 0, 1
        for count in range(1, 61):
            first, second = second, first + second
            self.assertEqual(result(fibonacci_term(count)), ("pair", ("num", first), ("num", second)))
        self.assertEqual(core_text(result(fibonacci_term(7))), "<13, 21>")

    def test_counts_that_are_too_small_or_too_large(self):
        for count in (0, 61, -1, 10 ** 30):
            self.assertRaises(TooLarge, fibonacci_term, count)
