"""Reading terms: points 7 and 8."""

import itertools
import unittest

from sharenet.errors import InvalidText, TooLarge
from sharenet.reader import read_term
from tests.grammar import TERM_TOKENS, TermTexts

INT = ("int",)
F, G, X, Y, Z = (("var", name) for name in "fgxyz")
ONE, TWO = ("num", 1), ("num", 2)


def op(sign, t, u):
    return ("op", sign, t, u)


class Reading(unittest.TestCase):
    def expect(self, text, term):
        self.assertEqual(read_term(text), term)

    def refuse(self, *texts):
        for text in texts:
            with self.subTest(text=text):
                self.assertRaises(InvalidText, read_term, text)

    def refuse_large(self, *texts):
        for text in texts:
            with self.subTest(text=text):
                self.assertRaises(TooLarge, read_term, text)


class Forms(Reading):
    def test_every_form(self):
        self.expect("x", X)
        self.expect("0", ("num", 0))
        self.expect("123456789", ("num", 123456789))
        self.expect("x + 1", op("+", X, ONE))
        self.expect("x - 1", op("-", X, ONE))
        self.expect("x * 1", op("*", X, ONE))
        self.expect("\\x:Int. x", ("lam", "x", INT, X))
        self.expect("f x", ("app", F, X))
        self.expect("!x", ("box", X))
        self.expect("let x = 1 in x", ("let", "x", ONE, X))
        self.expect("(x, 1)", ("pair", X, ONE))
        self.expect("let (x, y) = z in x", ("split", "x", "y", Z, X))
        self.expect("(x)", X)
        self.expect("((x))", X)

    def test_the_example_of_the_interface(self):
        self.expect("\\x:Int. let y = x in y + y * 2",
                    ('lam', 'x', ('int',), ('let', 'y', ('var', 'x'),
                                            ('op', '+', ('var', 'y'), ('op', '*', ('var', 'y'), ('num', 2))))))

    def test_kinds_of_parameters(self):
        self.expect("\\x:Int -> Int. x", ("lam", "x", ("fun", INT, INT), X))
        self.expect("\\x:!(Int, Int). x", ("lam", "x", ("bang", ("pair", INT, INT)), X))
        self.expect("\\x:(Int -> Int) -> Int. x", ("lam", "x", ("fun", ("fun", INT, INT), INT), X))
        self.expect("\\x : ( ! Int ) . x", ("lam", "x", ("bang", INT), X))

    def test_blanks(self):
        self.expect("\n \\ x\n:\nInt . let\ny=x\nin(y,\n!1)\n",
                    ("lam", "x", INT, ("let", "y", X, ("pair", Y, ("box", ONE)))))
        self.refuse("let x=1in x")

    def test_names_that_begin_with_words(self):
        self.expect("lets inn", ("app", ("var", "lets"), ("var", "inn")))
        self.expect("int", ("var", "int"))


class Tightness(Reading):
    def test_operations_associate_to_the_left(self):
        self.expect("x - y - z", op("-", op("-", X, Y), Z))
        self.expect("x + y - z", op("-", op("+", X, Y), Z))
        self.expect("x - y + z", op("+", op("-", X, Y), Z))
        self.expect("x * y * z", op("*", op("*", X, Y), Z))
        self.expect("x - (y - z)", op("-", X, op("-", Y, Z)))
        self.expect("x * (y * z)", op("*", X, op("*", Y, Z)))

    def test_applications_associate_to_the_left(self):
        self.expect("f x y", ("app", ("app", F, X), Y))
        self.expect("f (g x)", ("app", F, ("app", G, X)))
        self.expect("f 1 (x) (y, z)", ("app", ("app", ("app", F, ONE), X), ("pair", Y, Z)))
        self.expect("1 2", ("app", ONE, TWO))

    def test_products_are_tighter_than_sums(self):
        self.expect("x + y * z", op("+", X, op("*", Y, Z)))
        self.expect("x * y + z", op("+", op("*", X, Y), Z))
        self.expect("x * y - z * x", op("-", op("*", X, Y), op("*", Z, X)))
        self.expect("(x + y) * z", op("*", op("+", X, Y), Z))

    def test_applications_are_tighter_than_operations(self):
        self.expect("f x + g y", op("+", ("app", F, X), ("app", G, Y)))
        self.expect("x * f y", op("*", X, ("app", F, Y)))
        self.expect("f x * y", op("*", ("app", F, X), Y))
        self.expect("f (x * y)", ("app", F, op("*", X, Y)))

    def test_boxes_are_tighter_than_applications(self):
        self.expect("!f x", ("app", ("box", F), X))
        self.expect("f !x", ("app", F, ("box", X)))
        self.expect("f !x !y", ("app", ("app", F, ("box", X)), ("box", Y)))
        self.expect("f !x y", ("app", ("app", F, ("box", X)), Y))
        self.expect("!(f x)", ("box", ("app", F, X)))
        self.expect("!x + !y", op("+", ("box", X), ("box", Y)))
        self.expect("!x * y", op("*", ("box", X), Y))

    def test_boxes_of_boxes(self):
        self.expect("!!x", ("box", ("box", X)))
        self.expect("! ! !1", ("box", ("box", ("box", ONE))))
        self.expect("f !!x y", ("app", ("app", F, ("box", ("box", X))), Y))
        self.expect("!(!x)", ("box", ("box", X)))
        self.expect("!(x, y)", ("box", ("pair", X, Y)))


class Binders(Reading):
    def test_the_last_part_extends_to_the_right(self):
        self.expect("\\x:Int. x + y * z", ("lam", "x", INT, op("+", X, op("*", Y, Z))))
        self.expect("\\x:Int. f x y", ("lam", "x", INT, ("app", ("app", F, X), Y)))
        self.expect("let x = y in x - z", ("let", "x", Y, op("-", X, Z)))
        self.expect("let (x, y) = z in x y", ("split", "x", "y", Z, ("app", X, Y)))
        self.expect("\\x:Int. \\y:Int. x y", ("lam", "x", INT, ("lam", "y", INT, ("app", X, Y))))
        self.expect("(\\x:Int. x) y", ("app", ("lam", "x", INT, X), Y))
        self.expect("(let x = y in x) + z", op("+", ("let", "x", Y, X), Z))

    def test_where_they_may_stand(self):
        lam, let = ("lam", "x", INT, X), ("let", "x", Y, X)
        for text, term in (("\\x:Int. x", lam), ("let x = y in x", let)):
            self.expect(text, term)
            self.expect(f"({text})", term)
            self.expect(f"({text}, {text})", ("pair", term, term))
            self.expect(f"let z = {text} in {text}", ("let", "z", term, term))
            self.expect(f"let (f, g) = {text} in {text}", ("split", "f", "g", term, term))
            self.expect(f"\\z:Int. {text}", ("lam", "z", INT, term))

    def test_where_they_may_not_stand(self):
        for text in ("\\x:Int. x", "let x = y in x", "let (x, y) = z in x"):
            self.refuse(f"f {text}", f"1 + {text}", f"1 - {text}", f"1 * {text}", f"!{text}", f"f !{text}",
                        f"f x {text}", f"(1 + {text})", f"{text} {text}")
            self.expect(f"f ({text})", ("app", F, read_term(text)))
            self.expect(f"1 + ({text})", op("+", ONE, read_term(text)))
            self.expect(f"!({text})", ("box", read_term(text)))

    def test_the_parts_of_let_are_any_terms(self):
        self.expect("let x = let y = 1 in y in x", ("let", "x", ("let", "y", ONE, Y), X))
        self.expect("let x = 1 + 2 in let y = x in y", ("let", "x", op("+", ONE, TWO), ("let", "y", X, Y)))
        self.expect("let (x, y) = (1, 2) in (y, x)", ("split", "x", "y", ("pair", ONE, TWO), ("pair", Y, X)))

    def test_the_two_names_of_let_are_different(self):
        self.refuse("let (x, x) = y in x", "f (let (x, x) = (1, 2) in x)", "\\x:Int. let (y, y) = x in y")
        self.expect("let (x, x1) = y in x", ("split", "x", "x1", Y, X))

    def test_broken_binders(self):
        self.refuse("\\", "\\x", "\\x:", "\\x:Int", "\\x:Int.", "\\x. x", "\\x:. x", "\\:Int. x", "\\x Int. x",
                    "\\x:Int x", "\\(x):Int. x", "\\1:Int. x", "\\let:Int. x", "\\x:Int -> . x", "\\x:x. x",
                    "\\x y:Int. x", "\\x:Int:Int. x", "\\Int:Int. x", "\\x:Int. )")
        self.refuse("let", "let x", "let x =", "let x = 1", "let x = 1 in", "let x 1 in x", "let = 1 in x",
                    "let 1 = 1 in x", "let in = 1 in x", "let (x) = 1 in x", "let x, y = 1 in x",
                    "let (x, y = 1 in x", "let (x y) = 1 in x", "let () = 1 in x", "let (x,) = 1 in x",
                    "let (x, y, z) = 1 in x", "let ((x, y)) = 1 in x", "let (x, 1) = 1 in x", "let x = in x",
                    "let x == 1 in x", "let x = 1 in in x", "let let x = 1 in x", "let x = 1; in x", "in x",
                    "x in y", "let (let, y) = 1 in y", "let x y = 1 in x")


class OtherTexts(Reading):
    def test_all_short_texts(self):
        texts = TermTexts()
        for count in range(1, 6):
            right = dict(texts.of("loosest", count))
            for tokens in itertools.product(TERM_TOKENS, repeat=count):
                if tokens in right:
                    self.expect(" ".join(tokens), right[tokens])
                else:
                    self.assertRaises(InvalidText, read_term, " ".join(tokens))

    def test_longer_texts(self):
        texts = TermTexts()
        for tokens, term in texts.of("loosest", 7):
            if read_term(" ".join(tokens)) != term:
                self.fail(" ".join(tokens))

    def test_texts_that_are_no_terms(self):
        self.refuse("", " \n", "+", "x +", "+ x", "x + + y", "x * / y", "- 1", "-1", "x - -1", "(", ")", "()", "(x",
                    "x)", "(x,)", "(, x)", "(x, y, z)", "x, y", "x;", "x.", "x:Int", "Int", "x Int", "(x:Int)", "!",
                    "x !", "! + x", "def", "def x", "let", "in", "x -> y", "x = y", "let x = 1 in x)", "(x) )",
                    "x = 1", "f (x", "f x)", "*", "x *", "* x", "x y +")

    def test_texts_that_cannot_be_divided(self):
        self.refuse("x\ty", "x ? y", "12a", "007", "1234567890", "abcdefghi", "x_y", "Into", "x + y\r", "x > y",
                    "\u00e9", "x\u0661", "'x'", "x # y", "{x}", "[x]", "x / y")


class TooLargeTexts(Reading):
    def test_sixty_and_sixty_one_parentheses(self):
        self.expect("(" * 60 + "x" + ")" * 60, X)
        self.refuse_large("(" * 61 + "x" + ")" * 61)

    def test_sixty_and_sixty_one_lets(self):
        text = "let x = " * 60 + "x" + " in x" * 60
        self.assertEqual(read_term(text)[:2], ("let", "x"))
        self.refuse_large("let x = " * 61 + "x" + " in x" * 61)

    def test_both_together(self):
        self.expect("(" * 30 + "let x = " + "(" * 29 + "x" + ")" * 29 + " in x" + ")" * 30, ("let", "x", X, X))
        self.refuse_large("(" * 30 + "let x = " + "(" * 30 + "x" + ")" * 30 + " in x" + ")" * 30)
        self.expect("let x = " * 59 + "(y)" + " in y" * 59, read_term("let x = " * 59 + "y" + " in y" * 59))
        self.refuse_large("let x = " * 60 + "(x)" + " in x" * 60)
        self.refuse_large("let x = " * 59 + "let (x, y) = " + "x" + " in x" * 60)

    def test_only_what_is_open_counts(self):
        self.expect("f" + " (x)" * 100, read_term("f" + " x" * 100))
        text = "let x = x in " * 150 + "x"
        self.assertEqual(read_term(text)[:3], ("let", "x", X))
        self.refuse_large("f" + " (x)" * 100 + "(" * 61)

    def test_what_is_closed_too_often_counts_too(self):
        self.refuse(")" + "(" * 61, "in " + "(" * 61, ") in" + "let " * 62)
        self.refuse_large(")" + "(" * 62, "in " + "let " * 62, "in ) x" + "(" * 63)

    def test_too_large_texts_that_are_no_terms_either(self):
        self.refuse_large("(" * 61, "let " * 61, ") ) ( ( " + "(" * 61, "x = ; def " + "(" * 61, "(" * 61 + "]")
        self.refuse_large("(" * 30 + "let" + "(" * 30, "+" + "(" * 61 + ")" * 61, "let (x, x) = " + "(" * 60)

    def test_a_character_that_is_no_token(self):
        self.refuse_large("(" * 61 + "?", "(" * 61 + "\t", "(" * 61 + " 007", "(" * 61 + "12a", "let " * 61 + "Into")
        self.refuse("?" + "(" * 61, "(" * 60 + "?(", "(" * 60 + "007(", "(" * 60 + "Into(", "\t" + "let " * 61,
                    "(" * 60 + "letx\u00e9" + "(", "let " * 60 + "letletlet" + " let")

    def test_sixty_open_and_no_term(self):
        self.refuse("(" * 60, "let " * 60, "(" * 60 + "x" + ")" * 59, "(" * 60 + "x" + ")" * 61)


class LargeTerms(Reading):
    def test_depths_that_need_no_parentheses(self):
        for text, steps in (("\\x:Int. " * 3000 + "x", 3000), ("!" * 3000 + "x", 3000), ("f" + " x" * 3000, 3000),
                            ("let x = y in " * 3000 + "x", 3000), ("1" + " - 1" * 3000, 3000),
                            ("1" + " * 1" * 3000, 3000), ("let (x, y) = y in " * 3000 + "x", 3000)):
            term = read_term(text)
            places = {"lam": 3, "box": 1, "app": 1, "let": 3, "op": 2, "split": 4}
            for _ in range(steps):
                term = term[places[term[0]]]
            self.assertIn(term, (X, ("num", 1), F))

    def test_terms_are_tuples_of_the_right_values(self):
        term = read_term("\\x:Int. x + 7")
        self.assertIs(type(term), tuple)
        self.assertIs(type(term[3]), tuple)
        self.assertIs(type(term[3][3][1]), int)
