"""Reduction by need: points 50 to 52."""

import unittest

from sharenet.core import core_of, core_text
from sharenet.errors import KindMismatch, LevelMismatch, TooLong, UnknownName, UseMismatch
from sharenet.families import work_of
from sharenet.needing import need_normal
from sharenet.numerals import fibonacci_term
from sharenet.plain import normal_form
from sharenet.reader import read_term
from sharenet.writer import write_term
from tests.sharing import applied, doubled, made, numeral


class Lazy:
    """A value that a function computes when it is first asked for."""

    def __init__(self, compute):
        self.compute = compute
        self.known = None

    def value(self):
        if self.known is None:
            self.known = self.compute()
            self.compute = None
        return self.known


class SlowNeed:
    """The need machine by the words of points 50 and 51, with functions of Python for suspensions.

    Values are ("num", n), ("fun", function of Python), ("pair", lazy, lazy) and stuck ones.
    """

    def __init__(self, term):
        self.steps = 0
        self.core = self.read(self.value(term, {}), 0)

    def value(self, term, names):
        form = term[0]
        if form == "var":
            return names[term[1]].value()
        if form == "num":
            return term
        if form == "box":
            return self.value(term[1], names)
        if form == "lam":
            return ("fun", lambda argument: self.value(term[3], {**names, term[1]: argument}))
        if form == "pair":
            return ("pair", self.lazy(term[1], names), self.lazy(term[2], names))
        if form == "let":
            return self.value(term[3], {**names, term[1]: self.lazy(term[2], names)})
        if form == "split":
            held = self.lazy(term[3], names)
            parts = {term[1 + at]: Lazy(lambda at=at: self.part(held.value(), at)) for at in (0, 1)}
            return self.value(term[4], {**names, **parts})
        if form == "app":
            function = self.value(term[1], names)
            argument = self.lazy(term[2], names)
            if function[0] != "fun":
                return ("app", function, argument)
            self.steps += 1
            return function[1](argument)
        first, second = self.value(term[2], names), self.value(term[3], names)
        if first[0] == second[0] == "num":
            a, b = first[1], second[1]
            return ("num", {"+": a + b, "-": a - b, "*": a * b}[term[1]])
        return ("op", term[1], first, second)

    def lazy(self, term, names):
        return Lazy(lambda: self.value(term, names))

    def part(self, value, at):
        return value[1 + at].value() if value[0] == "pair" else (("fst", "snd")[at], value)

    def read(self, value, lams):
        form = value[0]
        if form == "num":
            return value
        if form == "var":
            return ("var", lams - value[1] - 1)
        if form == "fun":
            return ("lam", self.read(value[1](Lazy(lambda: ("var", lams))), lams + 1))
        if form == "pair":
            return ("pair", self.read(value[1].value(), lams), self.read(value[2].value(), lams))
        if form == "app":
            return ("app", self.read(value[1], lams), self.read(value[2].value(), lams))
        if form == "op":
            return ("op", value[1], self.read(value[2], lams), self.read(value[3], lams))
        return (form, self.read(value[1], lams))


class Results(unittest.TestCase):
    def expect(self, text, core, steps):
        term = read_term(text)
        found = need_normal(term)
        self.assertIsInstance(found, tuple)
        self.assertEqual((core_text(found[0]), found[1]), (core, steps))
        self.assertEqual(found[0], normal_form(core_of(term)))
        self.assertGreaterEqual(steps, work_of(term)[0])
        self.assertEqual(SlowNeed(term).steps, steps)

    def test_every_form(self):
        self.expect("5", "5", 0)
        self.expect("1 + 2", "3", 0)
        self.expect("2 - 7", "-5", 0)
        self.expect("3 * 4", "12", 0)
        self.expect("\\x:Int. x", "^#0", 0)
        self.expect("(\\x:Int. x) 5", "5", 1)
        self.expect("!5", "5", 0)
        self.expect("!!(1 + 1)", "2", 0)
        self.expect("let x = 2 in x * x", "4", 0)
        self.expect("let x = !2 in !(x * x)", "4", 0)
        self.expect("(1 + 1, 2 + 2)", "<2, 4>", 0)
        self.expect("let (x, y) = (1, 2) in (y, x)", "<2, 1>", 0)
        self.expect("\\x:Int. \\y:Int. x - y", "^^(#1 - #0)", 0)

    def test_stuck_values(self):
        self.expect("\\x:Int. x + (1 + 2)", "^(#0 + 3)", 0)
        self.expect("\\x:Int. 1 + 2 - x", "^(3 - #0)", 0)
        self.expect("\\x:Int. \\y:Int. x * y * (1 + 1)", "^^((#1 * #0) * 2)", 0)
        self.expect("\\f:Int -> Int. f (1 + 2)", "^(#0 3)", 0)
        self.expect("\\f:Int -> Int. \\x:Int. f ((\\y:Int. y) x)", "^^(#1 #0)", 1)
        self.expect("\\f:Int -> Int -> Int. f 1 (2 + 3)", "^((#0 1) 5)", 0)
        self.expect("\\p:(Int, Int). let (x, y) = p in (y, x)", "^<(snd #0), (fst #0)>", 0)
        self.expect("\\p:((Int, Int), Int). let (q, z) = p in let (x, y) = q in x + y - z",
                    "^(((fst (fst #0)) + (snd (fst #0))) - (snd #0))", 0)
        self.expect("\\f:Int -> (Int, Int). let (x, y) = f 7 in x - y", "^((fst (#0 7)) - (snd (#0 7)))", 0)
        self.expect("\\f:(Int -> Int) -> Int. f (\\x:Int. x + 1)", "^(#0 ^(#0 + 1))", 0)
        self.expect("\\p:(Int -> Int, Int). let (f, x) = p in f x", "^((fst #0) (snd #0))", 0)
        self.expect("\\f:!(Int -> Int). let g = f in !(\\x:Int. g (g x))", "^^(#1 (#1 #0))", 0)

    def test_arguments_that_are_used_once(self):
        self.expect("(\\x:Int. x + 1) ((\\y:Int. y) 2)", "3", 2)
        self.expect("(\\f:Int -> Int. f 1) (\\x:Int. x)", "1", 2)

    def test_arguments_that_are_used_often_are_computed_once(self):
        self.expect("let x = (\\y:Int. y) 3 in x * x * x", "27", 1)
        self.expect("let v = !((\\x:Int. x) 1) in !(v + v)", "2", 1)
        self.expect("(\\x:Int. let y = x in y + y) ((\\z:Int. z) 4)", "8", 2)
        self.expect("let p = !((\\x:Int. (x, 2)) 1) in !p", "<1, 2>", 1)
        self.expect("let p = !((\\x:Int. ((\\z:Int. z) x, 2)) 1) in !(p, p)", "<<1, 2>, <1, 2>>", 2)
        self.expect("\\f:!(Int -> Int). let g = f in !(let v = g ((\\x:Int. x) 1) in v + v)", "^((#0 1) + (#0 1))", 1)

    def test_both_names_of_a_split_share_its_part(self):
        self.expect("let (x, y) = (\\z:Int. (z, 2)) 1 in x + y", "3", 1)
        self.expect("let (x, y) = ((\\z:Int. z) 1, (\\z:Int. z) 2) in x + y", "3", 2)

    def test_the_part_of_a_let_is_the_same_suspension_as_what_it_holds(self):
        self.expect("let x = let y = !((\\z:Int. z) 2) in !(y * y) in !(x + x)", "8", 1)

    def test_functions_are_applied_anew_each_time(self):
        self.expect("let f = !(\\x:Int. (\\y:Int. y) x) in !(f (f 1))", "1", 4)
        self.expect("let f = !((\\y:Int. \\x:Int. x + y) 7) in !(f (f 1))", "15", 3)

    def test_functions_are_read_off_anew_each_time(self):
        self.expect("let f = !(\\x:Int. (\\y:Int. y) x) in !(f, f)", "<^#0, ^#0>", 2)
        self.expect("let f = !(\\x:Int. (\\y:Int. y) x) in !(f, (f 1, f))", "<^#0, <1, ^#0>>", 4)

    def test_names_that_hide_others(self):
        self.expect("\\x:Int. (\\x:Int. x) x", "^#0", 1)
        self.expect("\\x:Int. (\\y:Int. \\x:Int. y - x) x", "^^(#1 - #0)", 1)
        self.expect("(\\x:Int. let x = x in let x = x + x in x * x) 1", "4", 1)


class Terms(unittest.TestCase):
    def test_made_terms(self):
        more = 0
        for term in made(80):
            with self.subTest(write_term(term)):
                core, steps = need_normal(term)
                self.assertEqual(core, normal_form(core_of(term)))
                slow = SlowNeed(term)
                self.assertEqual((core, steps), (slow.core, slow.steps))
                self.assertGreaterEqual(steps, work_of(term, most=20000)[0])
                more += steps > work_of(term, most=20000)[0]
        self.assertGreater(more, 0)

    def test_numerals(self):
        self.assertEqual(need_normal(applied(10, read_term("\\x:Int. let y = x in y + y"), ("num", 1))), (("num", 1024), 12))
        for term in (doubled(4), fibonacci_term(12), ("app", numeral(3), ("box", read_term("\\x:Int. x + 1")))):
            slow = SlowNeed(term)
            self.assertEqual(need_normal(term), (slow.core, slow.steps))

    def test_deep_ways(self):
        core, steps = need_normal(fibonacci_term(60))
        self.assertEqual(core, ("pair", ("num", 1548008755920), ("num", 2504730781961)))
        body = ("var", "x")
        for _ in range(3000):
            body = ("op", "+", body, ("num", 1))
        term = ("app", ("lam", "x", ("int",), body), ("num", 1))
        self.assertEqual(need_normal(term), (("num", 3001), 1))
        term, core = ("var", "x"), ("var", 0)
        for _ in range(3000):
            term, core = ("app", ("var", "g"), term), ("app", ("var", 1), core)
        term = ("lam", "f", ("bang", ("fun", ("int",), ("int",))), (
            "let", "g", ("var", "f"), ("box", ("lam", "x", ("int",), term))))
        found, steps = need_normal(term)
        self.assertEqual((core_text(found), steps), (core_text(("lam", ("lam", core))), 0))
        many = ("app", term, ("box", read_term("\\x:Int. x + 1")))
        term = ("let", "r", many, ("box", ("app", ("var", "r"), ("num", 0))))
        self.assertEqual(need_normal(term), (("num", 3000), 3002))


class Limits(unittest.TestCase):
    def test_most(self):
        for text, steps in (("5", 0), ("(\\x:Int. x) 5", 1), ("let f = !(\\x:Int. (\\y:Int. y) x) in !(f (f 1))", 4),
                            ("let f = !(\\x:Int. (\\y:Int. y) x) in !(f, f)", 2), ("\\z:Int. (\\x:Int. x) ((\\y:Int. y) z)", 2)):
            term = read_term(text)
            wanted = need_normal(term)
            self.assertEqual(wanted[1], steps)
            self.assertEqual(need_normal(term, most=steps), wanted)
            self.assertEqual(need_normal(term, most=steps + 1), wanted)
            for most in range(steps):
                self.assertRaises(TooLong, need_normal, term, most=most)
        self.assertEqual(need_normal(read_term("1 + 2 * 3"), most=0), (("num", 7), 0))

    def test_the_default(self):
        term = ("num", 0)
        for _ in range(10000):
            term = ("app", ("lam", "x", ("int",), ("var", "x")), term)
        self.assertEqual(need_normal(term), (("num", 0), 10000))
        self.assertRaises(TooLong, need_normal, ("app", ("lam", "x", ("int",), ("var", "x")), term))

    def test_the_errors_of_check_term(self):
        for text, error in (("y", UnknownName), ("1 2", KindMismatch), ("let x = 1 in !x", LevelMismatch),
                            ("\\x:Int. 1", UseMismatch)):
            self.assertRaises(error, need_normal, read_term(text))
            self.assertRaises(error, need_normal, read_term(text), most=0)

    def test_names_are_needed_for_what_may_be_left_out(self):
        with self.assertRaises(TypeError):
            need_normal(("num", 1), 5)
