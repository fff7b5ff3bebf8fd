"""Evaluating programs: points 10, 11, 16 and 45."""

import unittest
from unittest import mock

from sharenet import evaluating
from sharenet.building import net_of
from sharenet.checking import check_term
from sharenet.core import core_of, core_text
from sharenet.errors import (DuplicateName, InvalidText, KindMismatch, LevelMismatch, TooLarge, TooLong, UnknownName,
                             UseMismatch)
from sharenet.evaluating import Evaluator
from sharenet.linking import linked
from sharenet.numerals import fibonacci_term, numeral
from sharenet.plain import normal_form
from sharenet.reader import read_program
from sharenet.running import run_net
from sharenet.simplifying import simplified
from sharenet.writer import write_program, write_term
from tests.sharing import made

FIBONACCI = """
def step : (Int, Int) -> (Int, Int) = \\p:(Int, Int). let (a, b) = p in let c = b in (c, a + c);
def two : !((Int, Int) -> (Int, Int)) -> !((Int, Int) -> (Int, Int)) =
    \\f:!((Int, Int) -> (Int, Int)). let g = f in !(\\x:(Int, Int). g (g x));
def main : !(Int, Int) = let f = two (two (two !step)) in !(f (0, 1));
def behind : Int = 1 + 2;
"""
SQUARES = """
def sq : Int -> Int = \\x:Int. let y = x in y * y;
def main : Int = sq (sq 3) - sq 5;
"""


def program_for(term, kind):
    return write_program([("main", kind, term)])


class Evaluations(unittest.TestCase):
    def test_programs(self):
        for text, wanted in ((FIBONACCI, "<21, 34>"), (SQUARES, "56"), ("def main : Int = 5;", "5"),
                             ("def main : !!Int = !!(2 - 7);", "-5"), ("def main : Int -> Int = \\x:Int. x + (1 + 1);", "^(#0 + 2)"),
                             ("def a : Int = 2; def b : Int = a + a; def main : (Int, Int) = (b, a * b);", "<4, 8>"),
                             ("def main : Int = 1; def b : Int = main + main;", "1")):
            for simple in (False, True):
                evaluator = Evaluator(simple=simple)
                self.assertEqual(core_text(evaluator.run_text(text)), wanted)

    def test_the_result_is_the_normal_form_and_the_counts_are_those_of_the_net(self):
        evaluator, simple = Evaluator(), Evaluator(simple=True)
        for text in (FIBONACCI, SQUARES):
            term = linked(read_program(text), "main")
            form = normal_form(core_of(term))
            self.assertEqual(evaluator.run_text(text), form)
            self.assertEqual(evaluator.counts, run_net(net_of(term)))
            self.assertEqual(simple.run_text(text), form)
            self.assertEqual(simple.counts, run_net(net_of(simplified(term))))
            self.assertLess(sum(simple.counts), sum(evaluator.counts))
            self.assertIsInstance(simple.counts, tuple)

    def test_made_terms(self):
        for term in made(30):
            text = program_for(term, check_term(term))
            evaluator, simple = Evaluator(), Evaluator(simple=True)
            self.assertEqual(evaluator.run_text(text), normal_form(core_of(term)))
            self.assertEqual(simple.run_text(text), normal_form(core_of(term)))
            self.assertEqual(evaluator.counts, run_net(net_of(term)))
            for some, many in zip(simple.counts[:2], evaluator.counts[:2]):
                self.assertLessEqual(some, many)

    def test_without_simple_nothing_is_simplified(self):
        evaluator = Evaluator()
        evaluator.run_text("def main : Int = (\\x:Int. x) (1 + 2);")
        self.assertEqual(evaluator.counts, (1, 0, 0, 0, 2))
        evaluator = Evaluator(simple=False)
        evaluator.run_text("def main : Int = let (x, y) = (1, 2) in x - y;")
        self.assertEqual(evaluator.counts, (0, 1, 0, 0, 2))
        evaluator = Evaluator(simple=True)
        evaluator.run_text("def main : Int = (\\x:Int. x) (1 + 2);")
        self.assertEqual(evaluator.counts, (0, 0, 0, 0, 0))
        evaluator.run_text("def main : Int = let (x, y) = (1, 2) in x - y;")
        self.assertEqual(evaluator.counts, (0, 0, 0, 0, 2))

    def test_numerals_as_texts(self):
        pairs = "(Int, Int)"
        kind = f"!({pairs} -> {pairs}) -> !({pairs} -> {pairs})"
        many = write_term(numeral(20, ("pair", ("int",), ("int",))))
        text = f"""def step : {pairs} -> {pairs} = \\p:{pairs}. let (a, b) = p in let c = b in (c, a + c);
            def many : {kind} = {many};
            def main : !{pairs} = let r = many !step in !(r (0, 1));"""
        evaluator = Evaluator()
        self.assertEqual(core_text(evaluator.run_text(text)), "<6765, 10946>")
        self.assertEqual(evaluator.counts, run_net(net_of(fibonacci_term(20))))


class Errors(unittest.TestCase):
    def refuse(self, text, error, name=None):
        for simple in (False, True):
            evaluator = Evaluator(simple=simple)
            with self.assertRaises(error) as caught:
                evaluator.run_text(text)
            self.assertIs(type(caught.exception), error)
            if name is not None:
                self.assertEqual(caught.exception.name, name)
            self.assertIsNone(evaluator.counts)
            self.assertIs(evaluator.busy, False)
            evaluator.run_text("def main : Int = 1 + 2;")
            counts = evaluator.counts
            self.assertRaises(error, evaluator.run_text, text)
            self.assertEqual(evaluator.counts, counts)
            self.assertIs(evaluator.busy, False)

    def test_the_errors_of_reading(self):
        self.refuse("def main : Int = 1", InvalidText)
        self.refuse("def main : Int = " + "(" * 61, TooLarge)
        self.refuse("def main : Int = 1; def main : Int = 2;", DuplicateName, "main")
        self.refuse("def a : Int = x; def a : Int = 2;", DuplicateName, "a")

    def test_the_errors_of_checking(self):
        self.refuse("def main : Int = y + z;", UnknownName, "y")
        self.refuse("def main : Int = 1; def b : Int = c;", UnknownName, "c")
        self.refuse("def main : Int = b; def b : Int = 1;", UnknownName, "b")
        self.refuse("def main : Int = main;", UnknownName, "main")
        self.refuse("def a : !Int = 1; def main : Int = 2;", KindMismatch)
        self.refuse("def main : Int = 1 2;", KindMismatch)
        self.refuse("def a : Int = let x = 1 in !x + 1; def main : Int = 2;", KindMismatch)
        self.refuse("def a : !Int = let x = 1 in !x; def main : Int = 2;", LevelMismatch)
        self.refuse("def main : Int -> Int = \\x:Int. 1;", UseMismatch)

    def test_programs_without_main(self):
        self.refuse("", UnknownName, "main")
        self.refuse(" \n ", UnknownName, "main")
        self.refuse("def a : Int = 1;", UnknownName, "main")
        self.refuse("def main1 : Int = 1; def mai : Int = 2;", UnknownName, "main")

    def test_checking_comes_before_main(self):
        self.refuse("def a : Int = b;", UnknownName, "b")
        self.refuse("def a : Int = (1, 2);", KindMismatch)

    def test_too_long(self):
        for text in (FIBONACCI, SQUARES, "def main : Int = 1 - 2;"):
            for simple in (False, True):
                evaluator = Evaluator(simple=simple)
                wanted = evaluator.run_text(text)
                most = sum(evaluator.counts)
                exact = Evaluator(most=most, simple=simple)
                self.assertEqual(exact.run_text(text), wanted)
                self.assertEqual(exact.counts, evaluator.counts)
                for less in {0, most // 2, most - 1}:
                    if 0 <= less < most:
                        tight = Evaluator(most=less, simple=simple)
                        self.assertRaises(TooLong, tight.run_text, text)
                        self.assertIsNone(tight.counts)
                        self.assertIs(tight.busy, False)
                self.assertEqual(core_text(Evaluator(most=0).run_text("def main : !Int = !4;")), "4")

    def test_the_default(self):
        text = "def main : Int = 0" + " - 1" * 5000 + ";"
        evaluator = Evaluator()
        self.assertEqual(evaluator.run_text(text), ("num", -5000))
        self.assertEqual(evaluator.counts, (0, 0, 0, 0, 10000))
        self.assertRaises(TooLong, evaluator.run_text, text.replace("= 0", "= (\\x:Int. x) 0"))
        self.assertRaises(TooLong, evaluator.run_text, text.replace(";", " - 1;"))
        self.assertEqual(evaluator.counts, (0, 0, 0, 0, 10000))
        self.assertEqual(Evaluator(most=10002).run_text(text.replace(";", " - 1;")), ("num", -5001))

    def test_names_are_needed(self):
        with self.assertRaises(TypeError):
            Evaluator(5)


class Attributes(unittest.TestCase):
    def test_before_and_after(self):
        evaluator = Evaluator()
        self.assertIsNone(evaluator.counts)
        self.assertIs(evaluator.busy, False)
        evaluator.run_text(SQUARES)
        self.assertEqual(evaluator.counts[:2], (3, 0))
        self.assertIs(evaluator.busy, False)
        first = evaluator.counts
        evaluator.run_text("def main : Int = 1 + 2;")
        self.assertEqual(evaluator.counts, (0, 0, 0, 0, 2))
        self.assertNotEqual(evaluator.counts, first)
        self.assertIsNone(Evaluator().counts)

    def test_busy_during_an_evaluation(self):
        evaluator, seen = Evaluator(simple=True), []

        def watched(function):
            def call(*given, **named):
                seen.append((evaluator.busy, evaluator.counts))
                return function(*given, **named)
            return call

        names = ("read_program", "check_program", "linked", "simplified", "net_of", "run_net", "read_back")
        watches = [mock.patch.object(evaluating, name, watched(getattr(evaluating, name))) for name in names]
        for watch in watches:
            watch.start()
        try:
            evaluator.run_text(SQUARES)
            self.assertEqual(seen, [(True, None)] * len(names))
            self.assertIs(evaluator.busy, False)
            self.assertRaises(KindMismatch, evaluator.run_text, "def main : Int = 1 2;")
            self.assertIs(evaluator.busy, False)
        finally:
            for watch in watches:
                watch.stop()

    def test_evaluators_do_not_know_of_each_other(self):
        one, other = Evaluator(), Evaluator(most=0)
        one.run_text(SQUARES)
        self.assertIsNone(other.counts)
        self.assertRaises(TooLong, other.run_text, SQUARES)
        self.assertIsNotNone(one.counts)
