"""Writing terms and programs: point 9."""

import re
import unittest

from sharenet.errors import TooLarge
from sharenet.reader import read_program, read_term
from sharenet.writer import write_program, write_term
from tests.oracles import Maker
from tests.test_kinds import without_one_pair

INT = ("int",)
F, G, X, Y, Z = (("var", name) for name in "fgxyz")
ONE = ("num", 1)
KIND = ("fun", ("fun", INT, INT), ("pair", ("bang", INT), INT))


def forms(t, u):
    """All forms of terms with two given terms in their places, and once more with these exchanged."""
    found = [("lam", "x", KIND, t), ("box", t)]
    for a, b in ((t, u), (u, t)):
        found += [("op", "+", a, b), ("op", "-", a, b), ("op", "*", a, b), ("app", a, b), ("let", "x", a, b),
                  ("pair", a, b), ("split", "x", "y", a, b)]
    return found


ROW = forms(X, ONE)
NESTED = [outer for inner in ROW for outer in forms(inner, Z)]
DEEPER = [outer for first in ROW for second in ROW for outer in forms(first, second)]
DEEPEST = [outer for inner in NESTED for outer in forms(inner, G)]


class WriteTerm(unittest.TestCase):
    def expect(self, term, text):
        self.assertEqual(write_term(term), text)
        self.assertEqual(read_term(text), term)

    def test_every_form(self):
        self.expect(X, "x")
        self.expect(("num", 0), "0")
        self.expect(("op", "+", X, ONE), "x + 1")
        self.expect(("op", "-", X, ONE), "x - 1")
        self.expect(("op", "*", X, ONE), "x * 1")
        self.expect(("lam", "x", INT, X), "\\x:Int. x")
        self.expect(("lam", "x", KIND, X), "\\x:(Int -> Int) -> (!Int, Int). x")
        self.expect(("app", F, X), "f x")
        self.expect(("box", X), "!x")
        self.expect(("let", "x", ONE, X), "let x = 1 in x")
        self.expect(("pair", X, ONE), "(x, 1)")
        self.expect(("split", "x", "y", Z, X), "let (x, y) = z in x")

    def test_the_example_of_the_interface(self):
        self.expect(("app", F, ("app", G, ("box", X))), "f (g !x)")

    def test_operations(self):
        plus, minus, times = (("op", sign, X, Y) for sign in "+-*")
        self.expect(("op", "-", minus, Z), "x - y - z")
        self.expect(("op", "-", Z, minus), "z - (x - y)")
        self.expect(("op", "+", Z, plus), "z + (x + y)")
        self.expect(("op", "+", minus, times), "x - y + x * y")
        self.expect(("op", "*", plus, plus), "(x + y) * (x + y)")
        self.expect(("op", "*", times, Z), "x * y * z")
        self.expect(("op", "*", Z, times), "z * (x * y)")

    def test_applications_and_boxes(self):
        call = ("app", F, X)
        self.expect(("app", call, Y), "f x y")
        self.expect(("app", Y, call), "y (f x)")
        self.expect(("box", call), "!(f x)")
        self.expect(("box", ("box", X)), "!!x")
        self.expect(("app", ("box", F), ("box", X)), "!f !x")
        self.expect(("op", "*", call, call), "f x * f x")
        self.expect(("app", F, ("op", "+", X, Y)), "f (x + y)")
        self.expect(("app", ("op", "+", X, Y), ONE), "(x + y) 1")
        self.expect(("box", ("pair", X, ("box", Y))), "!(x, !y)")
        self.expect(("app", F, ("pair", X, Y)), "f (x, y)")

    def test_binders(self):
        for term, text in ((("lam", "x", INT, X), "\\x:Int. x"), (("let", "x", Y, X), "let x = y in x"),
                           (("split", "x", "y", Z, X), "let (x, y) = z in x")):
            self.expect(("op", "+", ONE, term), f"1 + ({text})")
            self.expect(("op", "*", term, ONE), f"({text}) * 1")
            self.expect(("app", term, term), f"({text}) ({text})")
            self.expect(("box", term), f"!({text})")
            self.expect(("pair", term, term), f"({text}, {text})")
            self.expect(("lam", "z", INT, term), f"\\z:Int. {text}")
            self.expect(("let", "z", term, term), f"let z = {text} in {text}")
            self.expect(("split", "z", "f", term, term), f"let (z, f) = {text} in {text}")
            self.expect(("lam", "x", INT, ("op", "+", term, X)), f"\\x:Int. ({text}) + x")

    def test_numbers(self):
        self.expect(("num", 999999999), "999999999")
        self.expect(("num", 100000000), "100000000")
        self.assertEqual(write_term(("num", 1000000000)), "1000000000")
        self.assertEqual(write_term(("op", "+", ("num", 10 ** 30), X)), "1" + "0" * 30 + " + x")

    def test_numbers_of_any_size(self):
        for digits in (64, 65, 128, 129, 641, 4299, 4300, 4301, 10000):
            self.assertEqual(write_term(("num", 10 ** digits)), "1" + "0" * digits)
            self.assertEqual(write_term(("num", 10 ** digits - 1)), "9" * digits)
        self.assertEqual(write_term(("num", 12 * 10 ** 9000 + 34)), "12" + "0" * 8998 + "34")

    def test_written_terms_are_read_back(self):
        for term in NESTED + DEEPER + DEEPEST:
            if read_term(write_term(term)) != term:
                self.fail(str(term))

    def test_each_pair_of_parentheses_is_needed(self):
        for term in NESTED + DEEPER:
            text = write_term(term)
            for shorter in without_one_pair(text):
                if read_or_none(shorter) == term:
                    self.fail(f"{text} could be {shorter}")

    def test_blanks(self):
        pattern = re.compile(r" (\+|-|\*|=|in|->) |let |\. |, |(?<=[a-z0-9)]) (?=[a-z0-9(!])")
        for term in NESTED + DEEPER:
            text = write_term(term)
            bare = pattern.sub("", text)
            self.assertNotIn(" ", bare, text)
            self.assertNotIn("\n", bare, text)
            for mark in ("+", "-", "*", "=", "->", ".", ","):
                self.assertNotIn(mark, bare, text)

    def test_made_terms_are_read_back(self):
        maker = Maker(6)
        for _ in range(150):
            term = maker.spoiled(maker.checked())
            self.assertEqual(read_term(write_term(term)), term)

    def test_deep_terms(self):
        boxes, right, lams = X, X, X
        for _ in range(3000):
            boxes, right, lams = ("box", boxes), ("op", "-", ONE, right), ("lam", "x", INT, lams)
        self.assertEqual(write_term(boxes), "!" * 3000 + "x")
        self.assertEqual(write_term(right), "1 - (" * 2999 + "1 - x" + ")" * 2999)
        self.assertEqual(write_term(lams), "\\x:Int. " * 3000 + "x")

    def test_sixty_and_sixty_one_open(self):
        term = X
        for _ in range(61):
            term = ("op", "-", ONE, term)
        self.assertEqual(write_term(term).count("("), 60)
        self.assertEqual(read_term(write_term(term)), term)
        term = ("op", "-", ONE, term)
        self.assertEqual(write_term(term), "1 - (" * 61 + "1 - x" + ")" * 61)
        self.assertRaises(TooLarge, read_term, write_term(term))


class WriteProgram(unittest.TestCase):
    PROGRAM = [("id", ("fun", INT, INT), ("lam", "x", INT, X)), ("b", ("bang", INT), ("box", ONE)),
               ("main", ("pair", INT, INT), ("pair", ("app", ("var", "id"), ONE), ("op", "+", ONE, ONE)))]
    TEXT = ("def id : Int -> Int = \\x:Int. x;\n"
            "def b : !Int = !1;\n"
            "def main : (Int, Int) = (id 1, 1 + 1);\n")

    def test_lines(self):
        self.assertEqual(write_program([]), "")
        self.assertEqual(write_program(self.PROGRAM), self.TEXT)
        self.assertEqual(write_program(self.PROGRAM[1:2]), "def b : !Int = !1;\n")

    def test_written_programs_are_read_back(self):
        self.assertEqual(read_program(self.TEXT), self.PROGRAM)
        program = [(f"a{at}", INT, term) for at, term in enumerate(NESTED)]
        self.assertEqual(read_program(write_program(program)), program)

    def test_the_program_is_not_modified(self):
        program = list(self.PROGRAM)
        write_program(program)
        self.assertEqual(program, self.PROGRAM)


def read_or_none(text):
    try:
        return read_term(text)
    except ValueError:
        return None
