"""Core terms and cores of terms: points 17 and 18."""

import unittest

from sharenet.core import core_of, core_size, core_text, is_closed
from sharenet.errors import KindMismatch, LevelMismatch, TooLarge, UnknownName, UseMismatch
from sharenet.reader import read_term
from tests.oracles import Maker, core

INT = ("int",)
ONE, TWO = ("num", 1), ("num", 2)


def var(k):
    return ("var", k)


def lam(body):
    return ("lam", body)


class CoreTerms(unittest.TestCase):
    FORMS = [
        (var(0), 1, "#0"),
        (var(12), 1, "#12"),
        (("num", 0), 1, "0"),
        (("num", 345), 1, "345"),
        (("num", -7), 1, "-7"),
        (("op", "+", ONE, TWO), 3, "(1 + 2)"),
        (("op", "-", ("num", -1), ("num", -2)), 3, "(-1 - -2)"),
        (("op", "*", var(1), TWO), 3, "(#1 * 2)"),
        (lam(var(0)), 2, "^#0"),
        (("app", var(0), ONE), 3, "(#0 1)"),
        (("pair", ONE, var(0)), 3, "<1, #0>"),
        (("fst", var(3)), 2, "(fst #3)"),
        (("snd", ONE), 2, "(snd 1)"),
    ]

    def test_the_text_of_every_form(self):
        for term, size, text in self.FORMS:
            with self.subTest(text):
                self.assertEqual(core_text(term), text)
                self.assertEqual(core_size(term), size)

    def test_forms_inside_one_another(self):
        for term, size, text in self.FORMS:
            with self.subTest(text):
                for whole, more, words in ((lam(term), 1, f"^{text}"), (("fst", term), 1, f"(fst {text})"),
                                           (("snd", term), 1, f"(snd {text})"),
                                           (("app", term, ONE), 2, f"({text} 1)"),
                                           (("app", ONE, term), 2, f"(1 {text})"),
                                           (("pair", term, ONE), 2, f"<{text}, 1>"),
                                           (("pair", ONE, term), 2, f"<1, {text}>"),
                                           (("op", "-", term, ONE), 2, f"({text} - 1)"),
                                           (("op", "-", ONE, term), 2, f"(1 - {text})")):
                    self.assertEqual(core_text(whole), words)
                    self.assertEqual(core_size(whole), size + more)

    def test_a_longer_text(self):
        term = lam(("app", lam(("pair", var(0), ("fst", var(1)))), ("op", "*", ("num", -3), ("snd", var(0)))))
        self.assertEqual(core_text(term), "^(^<#0, (fst #1)> (-3 * (snd #0)))")
        self.assertEqual(core_size(term), 11)

    def test_numbers_of_any_size(self):
        for digits in (63, 64, 65, 128, 4299, 4300, 5000):
            self.assertEqual(core_text(("num", 10 ** digits)), "1" + "0" * digits)
            self.assertEqual(core_text(("num", 1 - 10 ** digits)), "-" + "9" * digits)

    def test_is_closed(self):
        for term in (ONE, lam(var(0)), lam(lam(var(1))), lam(("app", lam(var(1)), var(0))),
                     ("pair", lam(var(0)), lam(lam(("op", "+", var(0), var(1))))), ("fst", ("snd", lam(var(0))))):
            with self.subTest(core_text(term)):
                self.assertIs(is_closed(term), True)
        for term in (var(0), var(5), lam(var(1)), lam(lam(var(2))), ("app", lam(var(0)), var(0)),
                     ("app", var(0), lam(var(0))), lam(("app", lam(var(0)), var(1))), ("fst", var(0)),
                     ("snd", var(0)), ("pair", ONE, var(0)), ("pair", var(0), ONE), ("op", "+", var(0), ONE),
                     ("op", "+", ONE, var(0)), lam(("pair", lam(lam(var(2))), lam(var(2))))):
            with self.subTest(core_text(term)):
                self.assertIs(is_closed(term), False)

    def test_deep_core_terms(self):
        term = var(3000)
        for _ in range(3000):
            term = lam(("fst", term))
        self.assertEqual(core_size(term), 6001)
        self.assertEqual(core_text(term), "^(fst " * 3000 + "#3000" + ")" * 3000)
        self.assertFalse(is_closed(term))
        self.assertTrue(is_closed(lam(term)))


class CoreOf(unittest.TestCase):
    def expect(self, text, wanted):
        found = core_of(read_term(text))
        self.assertEqual(core_text(found), wanted)
        self.assertTrue(is_closed(found))

    def test_the_example_of_the_interface(self):
        self.expect("\\x:Int. let y = x in y + y * 2", "^(#0 + (#0 * 2))")

    def test_every_form(self):
        self.expect("7", "7")
        self.expect("1 - 2", "(1 - 2)")
        self.expect("\\x:Int. x", "^#0")
        self.expect("(\\x:Int. x) 1", "(^#0 1)")
        self.expect("!1", "1")
        self.expect("(1, 2)", "<1, 2>")
        self.expect("let x = 1 in x", "1")
        self.expect("let (x, y) = (1, 2) in x - y", "((fst <1, 2>) - (snd <1, 2>))")
        self.expect("let (x, y) = (1, 2) in y - x", "((snd <1, 2>) - (fst <1, 2>))")

    def test_core_terms_are_tuples(self):
        self.assertEqual(core_of(read_term("(\\x:Int. 2 * x, 1)")),
                         ("pair", ("lam", ("op", "*", ("num", 2), ("var", 0))), ("num", 1)))
        self.assertEqual(core_of(read_term("let (a, b) = (1, !2) in (\\f:!Int -> !Int. f b, a)")),
                         ("pair", ("lam", ("app", ("var", 0), ("snd", ("pair", ("num", 1), ("num", 2))))),
                          ("fst", ("pair", ("num", 1), ("num", 2)))))

    def test_numbers_of_variables(self):
        self.expect("\\x:Int. \\y:Int. x - y", "^^(#1 - #0)")
        self.expect("\\f:Int -> Int -> Int. \\x:Int. \\y:Int. f y x", "^^^((#2 #0) #1)")
        self.expect("\\x:Int. (\\y:Int. y) x", "^(^#0 #0)")
        self.expect("\\x:Int. (\\x:Int. x) x", "^(^#0 #0)")

    def test_boxes_are_left_out(self):
        self.expect("!(\\x:Int. x, !!1)", "<^#0, 1>")
        self.expect("!!(1, !2)", "<1, 2>")
        self.expect("\\f:!(Int -> Int). let g = f in !(\\x:Int. g (g x))", "^^(#1 (#1 #0))")

    def test_lets_with_several_occurrences(self):
        self.expect("let x = 1 + 2 in x * x", "((1 + 2) * (1 + 2))")
        self.expect("let f = !(\\x:Int. x) in !(f (f 1))", "(^#0 (^#0 1))")
        self.expect("let x = 1 in let y = (x + x) in y + y", "((1 + 1) + (1 + 1))")
        self.expect("let x = 1 in let x = x + 2 in x + x", "((1 + 2) + (1 + 2))")

    def test_replacing_does_not_capture(self):
        self.expect("\\x:Int. let y = x in \\x:Int. x + y", "^^(#0 + #1)")
        self.expect("\\x:Int. let y = x in (\\x:Int. x + y) y", "^(^(#0 + #1) #0)")
        self.expect("\\x:Int. let y = x in \\a:Int. \\b:Int. (a, y + b)", "^^^<#1, (#2 + #0)>")
        self.expect("\\x:Int. let y = x in (y, \\a:Int. (a + y, \\b:Int. b + y))",
                    "^<#0, ^<(#0 + #1), ^(#0 + #2)>>")
        self.expect("\\x:Int. let y = x in let z = (\\a:Int. a + y) y in \\b:Int. z + b",
                    "^^((^(#0 + #2) #1) + #0)")
        self.expect("\\p:(Int, Int). let (a, b) = p in \\x:Int. \\y:Int. (b + x, a - y)",
                    "^^^<((snd #2) + #1), ((fst #2) - #0)>")

    def test_cores_with_functions_that_are_put_into_functions(self):
        self.expect("\\x:!Int. let y = x in let f = !(\\a:Int. a + y) in !(\\b:Int. f (f b))",
                    "^^(^(#0 + #2) (^(#0 + #2) #0))")
        self.expect("\\x:!Int. let y = x in let f = !(\\a:Int. \\b:Int. a + y + b) in !(\\c:Int. f (f c 1) 2)",
                    "^^((^^((#1 + #3) + #0) ((^^((#1 + #3) + #0) #0) 1)) 2)")

    def test_splits_inside_one_another(self):
        self.expect("let (x, y) = ((1, 2), 3) in let (a, b) = x in a + b + y",
                    "(((fst (fst <<1, 2>, 3>)) + (snd (fst <<1, 2>, 3>))) + (snd <<1, 2>, 3>))")
        self.expect("let (x, y) = let (x, y) = (1, 2) in (y, x) in x - y",
                    "((fst <(snd <1, 2>), (fst <1, 2>)>) - (snd <(snd <1, 2>), (fst <1, 2>)>))")

    def test_the_fibonacci_step(self):
        self.expect("\\p:(Int, Int). let (a, b) = p in let c = b in (c, a + c)",
                    "^<(snd #0), ((fst #0) + (snd #0))>")

    def test_made_terms(self):
        maker = Maker(10)
        for _ in range(200):
            term = maker.checked()
            found = core_of(term)
            self.assertEqual(found, core(term))
            self.assertTrue(is_closed(found))

    def test_the_errors_of_checking(self):
        for text, error in (("\\x:Int. y", UnknownName), ("1 2", KindMismatch), ("let x = 1 in !x", LevelMismatch),
                            ("\\x:Int. 1", UseMismatch)):
            with self.subTest(text):
                self.assertRaises(error, core_of, read_term(text))
        with self.assertRaises(UnknownName) as caught:
            core_of(read_term("a b"))
        self.assertEqual(caught.exception.name, "a")


class LargeCores(unittest.TestCase):
    def test_exactly_20000_nodes(self):
        term = term_of_size(20000)
        found = core_of(term)
        self.assertEqual(core_size(found), 20000)
        self.assertTrue(is_closed(found))

    def test_20001_nodes(self):
        self.assertRaises(TooLarge, core_of, term_of_size(20001))

    def test_sizes_around_the_limit(self):
        for size in range(19990, 20010):
            if size <= 20000:
                self.assertEqual(core_size(core_of(term_of_size(size))), size)
            else:
                self.assertRaises(TooLarge, core_of, term_of_size(size))

    def test_boxes_and_lets_do_not_count(self):
        term = term_of_size(20000)
        for _ in range(20):
            term = ("box", ("let", "z", ("box", term), ("box", ("var", "z"))))
            self.assertEqual(core_size(core_of(term)), 20000)
        self.assertRaises(TooLarge, core_of, ("op", "+", ONE, term_of_size(19999)))

    def test_chains_of_lets(self):
        chain = "let x = 1 in " + "let x = x + x in " * 195
        self.assertRaises(TooLarge, core_of, read_term(chain + "x"))
        boxes = "let x = !1 in " + "let x = !(x, x) in " * 195
        self.assertRaises(TooLarge, core_of, read_term(boxes + "!x"))
        functions = "let f = !(\\x:Int. x) in " + "let f = !(\\x:Int. f (f x)) in " * 195
        self.assertRaises(TooLarge, core_of, read_term(functions + "!f"))
        splits = "let x = 1 in " + "let (x, y) = (1, 2) in let x = x + y in " * 90
        self.assertRaises(UseMismatch, core_of, read_term(splits + "x"))
        splits = "let (x, y) = (1, 2) in " + "let (x, y) = (y, x) in " * 195
        self.assertRaises(TooLarge, core_of, read_term(splits + "(x, y)"))

    def test_the_errors_of_checking_come_before_the_size(self):
        chain = "let x = 1 in " + "let x = x + x in " * 195
        self.assertRaises(UnknownName, core_of, read_term(chain + "x + y"))
        self.assertRaises(KindMismatch, core_of, read_term(chain + "x 1"))
        self.assertRaises(LevelMismatch, core_of, read_term(chain + "!x"))
        self.assertRaises(UseMismatch, core_of, read_term(chain + "1"))

    def test_chains_just_below_the_limit(self):
        chain = "let x = 1 in " + "let x = x + x in " * 13
        self.assertEqual(core_size(core_of(read_term(chain + "x"))), 2 ** 14 - 1)
        self.assertRaises(TooLarge, core_of, read_term(chain + "x + x"))

    def test_a_deep_core(self):
        addition = "let x = x" + " + 1" * 151 + " in "
        found = core_of(read_term("let x = 1 in " + addition * 6 + "x"))
        self.assertEqual(core_size(found), 1 + 6 * 302)
        self.assertTrue(is_closed(found))
        self.assertEqual(core_text(found), "(" * (6 * 151) + "1" + " + 1)" * (6 * 151))

    def test_many_occurrences_behind_long_ways(self):
        term = read_term("let x = let y = 1 in " + "let y = y in " * 150 + "y in x" + " + x" * 400)
        self.assertEqual(core_size(core_of(term)), 801)


def term_of_size(size):
    """A checked term whose core has so many nodes; a sum has an odd size, so a function stands around some."""
    if size % 2 == 0:
        return ("lam", "p", INT, ("let", "q", ("var", "p"), of_odd_size(size - 1, ("var", "q"))))
    return of_odd_size(size, ONE)


def of_odd_size(size, leaf):
    """A sum of leaves with so many nodes, in which a sum of 100 leaves has a name."""
    leaves = (size + 1) // 2
    total = sum_of([("var", "b")] * (leaves // 100) + [leaf] * (leaves % 100))
    return ("let", "b", sum_of([leaf] * 100), total)


def sum_of(terms):
    total = terms[0]
    for term in terms[1:]:
        total = ("op", "+", total, term)
    return total
