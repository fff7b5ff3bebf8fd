"""Records of reductions: points 27 and 36."""

import random
import unittest

from sharenet.building import net_of
from sharenet.canonical import canonical_order
from sharenet.core import core_of
from sharenet.errors import KindMismatch, LevelMismatch, TooLong, UnknownName, UseMismatch
from sharenet.plain import normal_form
from sharenet.reader import read_term
from sharenet.records import check_record, record_of
from sharenet.rules import interact
from sharenet.running import run_net
from tests.sharing import applied, doubled, made

LAST = [-1] * 2000
SHARED = read_term("let f = !(\\x:Int. x) in !(f (f 1))")
SUMS = read_term("((1 + 2, 3 * 4), 5 - 6)")


def slow_record(term, choices):
    """A record by the words of point 36, without sorting by anything but the pairs of numbers."""
    net, record = net_of(term), []
    while net.pairs():
        order = canonical_order(net)
        pairs = {}
        for pair in net.pairs():
            pairs[tuple(sorted(order.index(name) for name in pair))] = pair
        choice = choices[len(record)] if len(record) < len(choices) else 0
        record.append(sorted(pairs)[choice % len(pairs)])
        interact(net, pairs[record[-1]])
    return record


class Records(unittest.TestCase):
    def expect(self, text, record):
        found = record_of(read_term(text))
        self.assertEqual(found, record)
        self.assertIsInstance(found, list)
        for pair in found:
            self.assertIsInstance(pair, tuple)

    def test_small_records(self):
        self.expect("1", [])
        self.expect("(\\x:Int. x) 1", [(1, 2)])
        self.expect("1 + 2", [(1, 2), (1, 2)])
        self.expect("let x = 5 in (x, x)", [(2, 3)])
        self.assertEqual(record_of(SHARED), slow_record(SHARED, ()))

    def test_pairs_are_ordered_by_their_canonical_numbers(self):
        self.assertEqual(record_of(SUMS), slow_record(SUMS, ()))
        self.assertEqual(record_of(SUMS)[0], (3, 6))
        self.assertEqual(record_of(SUMS, choices=[1])[0], (4, 8))
        self.assertEqual(record_of(SUMS, choices=[2])[0], (5, 10))

    def test_drawn_choices(self):
        choices = random.Random(100)
        for term in [SHARED, SUMS, doubled(3), *made(25)]:
            steps = sum(run_net(net_of(term)))
            drawn = [choices.randrange(-100, 100) for _ in range(steps)]
            for chosen in ((), drawn, drawn[:steps // 2], LAST, tuple(drawn + LAST)):
                record = record_of(term, choices=chosen)
                self.assertEqual(record, slow_record(term, chosen))
                self.assertEqual(len(record), steps)
                for first, second in record:
                    self.assertTrue(0 < first < second)
                self.assertIs(check_record(term, record, normal_form(core_of(term))), True)

    def test_choices_that_are_negative_or_too_great(self):
        for choices in ([1, 0, 2], [4, 3, -1], [-2, -3, 5], [10 ** 20 * 3 + 1, 0, 2]):
            self.assertEqual(record_of(SUMS, choices=choices), record_of(SUMS, choices=[1, 0, 2]))

    def test_every_call_returns_a_new_list(self):
        record_of(SUMS).clear()
        self.assertEqual(len(record_of(SUMS)), 6)

    def test_most(self):
        self.assertEqual(len(record_of(SUMS, most=6)), 6)
        for most in range(6):
            self.assertRaises(TooLong, record_of, SUMS, most=most)
            self.assertRaises(TooLong, record_of, SUMS, choices=LAST, most=most)
        self.assertEqual(record_of(("num", 1), most=0), [])

    def test_the_default(self):
        total = ("num", 0)
        for _ in range(1000):
            total = ("op", "+", total, ("num", 1))
        self.assertEqual(len(record_of(total)), 2000)
        self.assertRaises(TooLong, record_of, ("app", ("lam", "x", ("int",), ("var", "x")), total))

    def test_the_errors_of_checking(self):
        for text, error in (("\\x:Int. y", UnknownName), ("1 2", KindMismatch), ("let x = 1 in !x", LevelMismatch),
                            ("\\x:Int. 1", UseMismatch)):
            self.assertRaises(error, record_of, read_term(text))
            self.assertRaises(error, record_of, read_term(text), most=0)
            self.assertRaises(error, check_record, read_term(text), [], ("num", 1))
            self.assertRaises(error, check_record, read_term(text), [(1, 2)], ("num", 1))

    def test_names_are_needed_for_what_may_be_left_out(self):
        with self.assertRaises(TypeError):
            record_of(SUMS, [])


class Checks(unittest.TestCase):
    def accept(self, term, record, core):
        given = list(record)
        self.assertIs(check_record(term, given, core), True)
        self.assertEqual(given, record)

    def refuse(self, term, core, *records):
        for record in records:
            with self.subTest(record=record):
                self.assertIs(check_record(term, record, core), False)

    def test_right_records(self):
        self.accept(("num", 5), [], ("num", 5))
        self.accept(read_term("1 + 2"), [(1, 2), (1, 2)], ("num", 3))
        self.accept(read_term("\\x:Int. x"), [], ("lam", ("var", 0)))
        for term in (SHARED, SUMS, doubled(4), applied(4, read_term("\\x:Int. x * 3"), ("num", 1))):
            core = normal_form(core_of(term))
            for choices in ((), LAST, [3, 1, 4, 1, 5, 9]):
                self.accept(term, record_of(term, choices=choices), core)

    def test_records_that_are_too_short_or_too_long(self):
        for term in (SHARED, SUMS, doubled(2)):
            core, record = normal_form(core_of(term)), record_of(term)
            for many in range(len(record)):
                self.refuse(term, core, record[:many], record[1:][:many])
            self.refuse(term, core, [*record, (1, 2)], record + record, [*record, (0, 1)])
        self.refuse(("num", 5), ("num", 5), [(0, 1)], [(1, 2)], [(1, 1)], [(0, 0)])

    def test_a_pair_in_the_other_order(self):
        for term in (SHARED, SUMS):
            core, record = normal_form(core_of(term)), record_of(term)
            for at, (first, second) in enumerate(record):
                self.refuse(term, core, [*record[:at], (second, first), *record[at + 1:]])

    def test_a_pair_that_is_not_active(self):
        for term in (SHARED, SUMS):
            core, record = normal_form(core_of(term)), record_of(term)
            many = len(net_of(term))
            for first in range(many):
                for second in range(many):
                    if self.is_wrong_at_first(term, (first, second)):
                        self.refuse(term, core, [(first, second), *record[1:]], [(first, second), *record])

    def is_wrong_at_first(self, term, pair):
        net = net_of(term)
        order = canonical_order(net)
        return pair not in [tuple(sorted(order.index(name) for name in active)) for active in net.pairs()]

    def test_numbers_that_are_negative_or_out_of_range(self):
        for term in (SHARED, SUMS):
            core, record = normal_form(core_of(term)), record_of(term)
            many = len(net_of(term))
            for at, (first, second) in enumerate(record):
                for pair in ((first, second + many), (first + many, second + many), (first - many, second),
                             (first, second - many), (-second, -first), (first - many, second - many), (-1, second),
                             (first, -1), (first, 10 ** 20), (-10 ** 20, second)):
                    self.refuse(term, core, [*record[:at], pair, *record[at + 1:]])

    def test_the_right_pairs_in_a_wrong_order(self):
        term = SUMS
        core, record = normal_form(core_of(term)), record_of(term)
        self.refuse(term, core, record[::-1])

    def test_other_core_terms(self):
        for term in (SHARED, SUMS, doubled(2)):
            core, record = normal_form(core_of(term)), record_of(term)
            for other in (("num", 7), ("var", 0), ("lam", ("var", 0)), ("lam", ("lam", ("var", 0))), ("pair", core, core),
                          ("fst", core), ("lam", core), core_of(term), core_of(SUMS)):
                self.assertIs(check_record(term, record, other), other == core)
        record = record_of(SUMS)
        for a, b, c in ((3, 12, 0), (12, 3, -1), (-3, 12, -1), (3, 12, 1)):
            self.refuse(SUMS, ("pair", ("pair", ("num", a), ("num", b)), ("num", c)), record)

    def test_a_core_term_that_is_not_normal(self):
        self.refuse(read_term("1 + 2"), ("num", 3), [], [(1, 2)])
        self.refuse(read_term("1 + 2"), ("op", "+", ("num", 1), ("num", 2)), [], [(1, 2)], [(1, 2), (1, 2)])

    def test_a_net_that_is_too_large_to_be_read(self):
        term = read_term("\\x:Int. let x = x in " + "let x = x + x in " * 30 + "x")
        self.assertEqual(record_of(term), [])
        self.assertIs(check_record(term, [], ("lam", ("var", 0))), False)

    def test_a_deep_normal_form(self):
        term, core = ("var", "x"), ("var", 0)
        for _ in range(900):
            term, core = ("op", "+", term, ("num", 1)), ("op", "+", core, ("num", 1))
        term = ("lam", "x", ("int",), term)
        self.accept(term, [], ("lam", core))
        self.refuse(term, ("lam", ("op", "+", core, ("num", 1))), [])
        self.refuse(term, ("lam", core[2]), [])
