"""Checking terms: points 12 to 15."""

import unittest

from sharenet.checking import check_term, levels_of
from sharenet.errors import KindMismatch, LevelMismatch, UnknownName, UseMismatch
from sharenet.reader import read_kind, read_term
from tests.oracles import Maker, free_occurrences, verdict

INT = ("int",)


class Checking(unittest.TestCase):
    def expect(self, text, kind):
        self.assertEqual(check_term(read_term(text)), read_kind(kind))

    def refuse(self, error, *texts):
        for text in texts:
            with self.subTest(text=text):
                self.assertRaises(error, check_term, read_term(text))

    def refuse_name(self, text, name):
        with self.subTest(text=text):
            with self.assertRaises(UnknownName) as caught:
                check_term(read_term(text))
            self.assertEqual(caught.exception.name, name)


class UnknownNames(Checking):
    def test_free_names(self):
        self.refuse_name("x", "x")
        self.refuse_name("\\x:Int. y", "y")
        self.refuse_name("let x = x in x", "x")
        self.refuse_name("let (x, y) = (y, 1) in (x, y)", "y")
        self.refuse_name("(\\x:Int. x) x", "x")

    def test_the_first_one_from_left_to_right(self):
        self.refuse_name("b a", "b")
        self.refuse_name("let x = 1 in (x, c + b)", "c")
        self.refuse_name("(\\x:Int. x, !d) c", "d")
        self.refuse_name("let x = b in a", "b")


class Kinds(Checking):
    def test_the_example_of_the_interface(self):
        self.assertEqual(
            check_term(read_term("\\f:!(Int -> Int). let g = f in !(\\x:Int. g (g x))")),
            ('fun', ('bang', ('fun', ('int',), ('int',))), ('bang', ('fun', ('int',), ('int',)))))

    def test_numbers_and_operations(self):
        self.expect("1", "Int")
        self.assertEqual(check_term(("num", 10 ** 100)), INT)
        for sign in "+-*":
            self.expect(f"1 {sign} 2", "Int")
            self.refuse(KindMismatch, f"!1 {sign} 2", f"1 {sign} !2", f"(1, 2) {sign} 3", f"3 {sign} (1, 2)",
                        f"(\\x:Int. x) {sign} 3", f"3 {sign} (\\x:Int. x)", f"!1 {sign} !1")

    def test_functions(self):
        self.expect("\\x:Int. x", "Int -> Int")
        self.expect("\\x:!Int. x", "!Int -> !Int")
        self.expect("\\x:Int. (x, !1)", "Int -> (Int, !Int)")
        self.expect("\\x:Int -> Int. \\y:Int. x y", "(Int -> Int) -> Int -> Int")
        self.refuse(KindMismatch, "\\x:!Int. x + 1", "\\x:Int. x 1", "\\x:Int. !1 + x")

    def test_applications(self):
        self.expect("(\\x:Int. (x, 2)) 1", "(Int, Int)")
        self.expect("(\\x:!Int. x) !1", "!Int")
        self.expect("(\\f:Int -> (Int, Int). f 1) (\\x:Int. let y = x in (y, y))", "(Int, Int)")
        self.refuse(KindMismatch, "1 2", "!(\\x:Int. x) 1", "(\\x:Int. x) !1", "(\\x:!Int. x) 1", "(1, 2) 3",
                    "(\\x:(Int, Int). x) (1, !1)", "(\\f:Int -> Int. f) (\\x:!Int. x)",
                    "(\\f:Int -> Int. f) (\\x:Int. !1)", "(\\x:Int. x) (\\x:Int. x)")

    def test_boxes(self):
        self.expect("!1", "!Int")
        self.expect("!!(1, 2)", "!!(Int, Int)")
        self.expect("!(\\x:Int. x)", "!(Int -> Int)")
        self.refuse(KindMismatch, "!(1 2)", "!(1 + !1)")

    def test_let_over_a_box(self):
        self.expect("let x = !1 in !x", "!Int")
        self.expect("let x = !(\\y:Int. y) in !(x 1)", "!Int")
        self.expect("let x = !!1 in !x", "!!Int")
        self.expect("let x = !1 in (!x, !(x + 1))", "(!Int, !Int)")
        self.refuse(KindMismatch, "let x = !!1 in !(x + 1)", "let x = !(1, 2) in !(x + 1)")

    def test_let_over_int(self):
        self.expect("let x = 1 in x", "Int")
        self.expect("let x = 1 in (x, x + x)", "(Int, Int)")
        self.refuse(KindMismatch, "let x = 1 in x 1", "let x = 1 in let y = !x in y 1 + !y")

    def test_let_over_other_kinds(self):
        self.refuse(KindMismatch, "let x = (1, 2) in x", "let x = \\y:Int. y in x", "let x = (!1, 1) in !x")

    def test_pairs_and_splits(self):
        self.expect("(1, !2)", "(Int, !Int)")
        self.expect("let (x, y) = (1, !2) in (y, x)", "(!Int, Int)")
        self.expect("\\p:(Int, Int). let (a, b) = p in let c = b in (c, a + c)", "(Int, Int) -> (Int, Int)")
        self.refuse(KindMismatch, "let (x, y) = 1 in x + y", "let (x, y) = !(1, 2) in (x, y)",
                    "let (x, y) = \\x:Int. x in (x, y)", "let (x, y) = (1, !2) in x + y",
                    "let (x, y) = (!1, 2) in x + y")

    def test_inner_bindings_hide_outer_ones(self):
        self.expect("\\x:Int. (\\x:!Int. x, x)", "Int -> (!Int -> !Int, Int)")
        self.expect("let x = 1 in let (x, y) = (x, (x, x)) in (y, x)", "((Int, Int), Int)")


class Levels(Checking):
    def test_names_of_functions_and_splits(self):
        self.expect("!(\\x:Int. x)", "!(Int -> Int)")
        self.refuse(LevelMismatch, "\\x:Int. !x", "\\x:!Int. (1, !x)", "let (x, y) = (1, 2) in (!x, y)",
                    "let (x, y) = (1, 2) in (x, !y)", "!(\\x:Int. !x)")

    def test_names_of_lets_over_boxes(self):
        self.expect("let x = !1 in !x", "!Int")
        self.expect("!(let x = !1 in !x)", "!!Int")
        self.refuse(LevelMismatch, "let x = !1 in x", "let x = !1 in !!x", "let x = !1 in (!x, x)",
                    "let x = !1 in (!!x, !x)", "!(let x = !1 in x)", "let x = !!1 in !!x")

    def test_names_of_lets_over_int(self):
        self.expect("let x = 1 in x + x", "Int")
        self.expect("!(let x = 1 in x)", "!Int")
        self.refuse(LevelMismatch, "let x = 1 in !x", "let x = 1 in (x, !x)", "!(let x = 1 in !x)")

    def test_levels_count_all_boxes(self):
        self.expect("let x = !!1 in !(let y = x in !(y + y))", "!!Int")
        self.expect("!!(let x = !1 in !x)", "!!!Int")
        self.refuse(LevelMismatch, "let x = !!1 in !(let y = x in y)",
                    "let x = !1 in let y = !1 in !(x + (let z = !y in 1))")

    def test_hidden_names(self):
        self.expect("\\x:Int. (x, !(\\x:Int. x))", "Int -> (Int, !(Int -> Int))")
        self.expect("let x = 1 in (x, !(let x = 2 in x))", "(Int, !Int)")

    def test_the_part_of_a_let_has_the_level_of_the_let(self):
        self.expect("let x = 1 in let y = x in y", "Int")
        self.refuse(LevelMismatch, "let x = !1 in let y = x in !y", "let x = !1 in let y = !!x in !y")
        self.expect("let x = !1 in let y = !x in !y", "!Int")


class Uses(Checking):
    def test_names_of_functions(self):
        self.refuse(UseMismatch, "\\x:Int. 1", "\\x:Int. x + x", "\\x:Int. \\x:Int. x", "!(\\x:Int. (x, (x, x)))")

    def test_names_of_splits(self):
        self.expect("let (x, y) = (1, 2) in x - y", "Int")
        self.refuse(UseMismatch, "let (x, y) = (1, 2) in x", "let (x, y) = (1, 2) in y", "let (x, y) = (1, 2) in 1",
                    "let (x, y) = (1, 2) in x + y + x", "let (x, y) = (1, 2) in x + y + y",
                    "let (x, y) = (1, 2) in x + x", "let (x, y) = (1, 2) in let (x, z) = (x, 1) in x + z")

    def test_names_of_lets(self):
        self.expect("let x = 1 in x", "Int")
        self.expect("let x = 1 in x + x + x", "Int")
        self.refuse(UseMismatch, "let x = 1 in 1", "let x = !1 in !1", "let x = 1 in let x = 2 in x",
                    "let x = 1 in \\x:Int. x")

    def test_occurrences_that_belong_to_another_binding(self):
        self.expect("\\x:Int. let x = x in x + x", "Int -> Int")
        self.expect("\\x:Int. (\\x:Int. x) x", "Int -> Int")
        self.refuse(UseMismatch, "\\x:Int. (\\x:Int. x, 1)", "\\x:Int. let (x, y) = (1, 2) in x + y")


class SeveralFaults(Checking):
    UNKNOWN, KIND, LEVEL, USE = "y", "1 2", "(let x = 1 in !x)", "(\\x:Int. 1)"

    def expect_error(self, error, *parts):
        """Put faults into one term, in both orders, and at the side of a right part."""
        for order in (parts, parts[::-1]):
            term = read_term(order[0])
            for part in order[1:]:
                term = ("pair", term, read_term(part))
            for whole in (term, ("pair", ("num", 1), term), ("box", term), ("let", "z", term, ("num", 1))):
                if whole[0] == "let" and error != UnknownName:
                    continue
                with self.subTest(term=whole):
                    self.assertRaises(error, check_term, whole)

    def test_one_fault(self):
        self.expect_error(UnknownName, self.UNKNOWN)
        self.expect_error(KindMismatch, self.KIND)
        self.expect_error(LevelMismatch, self.LEVEL)
        self.expect_error(UseMismatch, self.USE)

    def test_unknown_names_come_first(self):
        self.expect_error(UnknownName, self.UNKNOWN, self.KIND)
        self.expect_error(UnknownName, self.UNKNOWN, self.LEVEL)
        self.expect_error(UnknownName, self.UNKNOWN, self.USE)
        self.expect_error(UnknownName, self.USE, self.LEVEL, self.KIND, self.UNKNOWN)

    def test_kinds_come_before_levels_and_uses(self):
        self.expect_error(KindMismatch, self.KIND, self.LEVEL)
        self.expect_error(KindMismatch, self.KIND, self.USE)
        self.expect_error(KindMismatch, self.LEVEL, self.USE, self.KIND)
        self.expect_error(KindMismatch, self.USE, self.KIND, self.LEVEL)

    def test_levels_come_before_uses(self):
        self.expect_error(LevelMismatch, self.LEVEL, self.USE)
        self.expect_error(LevelMismatch, self.USE, self.LEVEL, self.USE)

    def test_several_faults_at_one_place(self):
        self.refuse(KindMismatch, "\\x:Int. !x + x", "let x = !1 in x 1")
        self.refuse(LevelMismatch, "\\x:Int. (x, !x)", "let (x, y) = (1, 2) in !x")
        self.refuse_name("\\x:Int. y !x x", "y")
        self.refuse(KindMismatch, "let x = \\y:Int. 1 in 1")


class MadeTerms(unittest.TestCase):
    def test_right_and_wrong_terms(self):
        maker = Maker(7)
        for _ in range(150):
            term = maker.checked()
            self.assertEqual(check_term(term), verdict(term))
            for _ in range(6):
                term = maker.spoiled(term)
                self.assertEqual(outcome(term), verdict(term), term)


class LargeTerms(unittest.TestCase):
    def test_a_deep_term(self):
        text = "\\x:Int. " + "let x = x + 1 in " * 196 + "x"
        self.assertEqual(check_term(read_term(text)), ("fun", INT, INT))

    def test_larger_depths(self):
        term = ("num", 1)
        for _ in range(3000):
            term = ("let", "x", term, ("op", "+", ("var", "x"), ("num", 1)))
        self.assertEqual(check_term(term), INT)

    def test_kinds_that_grow(self):
        text = "let a = !1 in " + "let a = !(a, a) in " * 190 + "1"
        self.assertRaises(UseMismatch, check_term, read_term(text))
        kind = check_term(read_term("let a = !1 in " + "let a = !(a, a) in " * 190 + "!a"))
        for _ in range(190):
            kind = ("bang", kind[1][1]) if kind[0] == "bang" else kind
        self.assertEqual(kind, ("bang", INT))
        text = "let a = !1 in " + "let a = !(a, a) in " * 190 + "!((\\x:((Int, Int), Int). x) a)"
        self.assertRaises(KindMismatch, check_term, read_term(text))


class LevelsOf(unittest.TestCase):
    def expect(self, text, name, levels):
        found = levels_of(read_term(text), name)
        self.assertEqual(found, levels)
        self.assertIs(type(found), list)

    def test_every_form(self):
        self.expect("x", "x", [0])
        self.expect("y", "x", [])
        self.expect("1", "x", [])
        self.expect("!x", "x", [1])
        self.expect("x + !x", "x", [0, 1])
        self.expect("!x x", "x", [1, 0])
        self.expect("(!!x, !x)", "x", [2, 1])
        self.expect("\\y:Int. !x", "x", [1])
        self.expect("let y = !x in x", "x", [1, 0])
        self.expect("let (y, z) = x in !x", "x", [0, 1])

    def test_the_order_is_from_left_to_right(self):
        self.expect("(!!x, x) !x (!!!x)", "x", [2, 0, 1, 3])
        self.expect("let y = let z = !x in !!x in (x, !x)", "x", [1, 2, 0, 1])
        self.expect("!(x, !x) + !!(x, x)", "x", [1, 2, 2, 2])

    def test_bound_occurrences_are_left_out(self):
        self.expect("\\x:Int. x", "x", [])
        self.expect("(\\x:Int. !x) !x x", "x", [1, 0])
        self.expect("let x = !x in !!x", "x", [1])
        self.expect("let (x, y) = (!x, y) in (x, y)", "x", [1])
        self.expect("let (x, y) = (!x, y) in (x, y)", "y", [0])
        self.expect("let (y, x) = !x in x", "x", [1])
        self.expect("!(\\y:Int. let x = 1 in x) (\\z:Int. x)", "x", [0])

    def test_terms_that_are_not_checked(self):
        self.expect("\\y:Int. (y x, y !x)", "x", [0, 1])

    def test_made_terms(self):
        maker = Maker(8)
        for _ in range(100):
            term = maker.spoiled(maker.spoiled(maker.checked()))
            for name in "abc":
                wanted = [level for found, level in free_occurrences(term) if found == name]
                self.assertEqual(levels_of(term, name), wanted)

    def test_every_returned_list_is_new(self):
        term = read_term("(x, !x)")
        levels_of(term, "x").append(5)
        self.assertEqual(levels_of(term, "x"), [0, 1])

    def test_a_deep_term(self):
        term = ("var", "x")
        for _ in range(3000):
            term = ("box", ("pair", term, ("var", "x")))
        self.assertEqual(levels_of(term, "x"), [3000, *range(3000, 0, -1)])


def outcome(term):
    """What check_term does, in the form of the oracle's verdict."""
    try:
        return check_term(term)
    except UnknownName as error:
        return ("UnknownName", error.name)
    except (KindMismatch, LevelMismatch, UseMismatch) as error:
        return type(error).__name__
