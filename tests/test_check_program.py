"""Checking programs: points 15 and 16."""

import unittest

from sharenet.checking import check_program, check_term
from sharenet.errors import KindMismatch, LevelMismatch, SharenetError, UnknownName, UseMismatch
from sharenet.linking import linked
from sharenet.reader import read_program
from tests.oracles import Maker

INT = ("int",)


class CheckProgram(unittest.TestCase):
    def expect(self, text):
        self.assertIsNone(check_program(read_program(text)))

    def refuse(self, error, *texts):
        for text in texts:
            with self.subTest(text=text):
                self.assertRaises(error, check_program, read_program(text))

    def refuse_name(self, text, name):
        with self.subTest(text=text):
            with self.assertRaises(UnknownName) as caught:
                check_program(read_program(text))
            self.assertEqual(caught.exception.name, name)

    def test_the_empty_program(self):
        self.assertIsNone(check_program([]))

    def test_checked_programs(self):
        self.expect("def a : Int = 1;")
        self.expect("def a : Int = 1; def b : Int = a + a; def c : (Int, !Int) = (b, !a);")
        self.expect("def id : Int -> Int = \\x:Int. x; def main : Int = id (id 1);")
        self.expect("def two : !(Int -> Int) -> !(Int -> Int) = \\f:!(Int -> Int). let g = f in !(\\x:Int. g (g x));"
                    "def main : !Int = let r = two !(\\x:Int. x + 1) in !(r 0);")

    def test_names_of_definitions_at_any_level_and_as_often_as_wanted(self):
        self.expect("def a : Int = 1; def b : !!Int = !!(a + a); def c : Int = 2;")
        self.expect("def f : !Int = let x = !1 in !(x + x); def g : (!!Int, !Int) = (!f, f);")

    def test_bound_names_that_are_also_names_of_definitions(self):
        self.expect("def x : Int = 1; def f : !Int -> !Int = \\x:!Int. x;")
        self.refuse(KindMismatch, "def x : Int = 1; def f : !Int -> Int = \\x:!Int. x;")
        self.refuse(UseMismatch, "def x : Int = 1; def f : Int -> Int = (\\x:Int. \\x:Int. x) x;")
        self.refuse(LevelMismatch, "def x : Int = 1; def f : Int -> !Int = \\x:Int. !x;")

    def test_errors_of_linking(self):
        self.refuse_name("def a : Int = b;", "b")
        self.refuse_name("def a : Int = a;", "a")
        self.refuse_name("def a : Int = 1; def b : Int = c; def c : Int = 1;", "c")
        self.refuse_name("def a : Int = y x;", "y")

    def test_errors_of_linking_come_first(self):
        for term in ("1 2", "!1", "let x = 1 in !x", "\\x:Int. 1", "let x = 1 in 1"):
            self.refuse_name(f"def a : Int = {term}; def b : Int = c;", "c")
            self.refuse_name(f"def b : Int = c; def a : Int = {term};", "c")
            self.refuse_name(f"def a : Int = {term}; def b : Int = 1; def c : Int = d e;", "d")

    def test_errors_of_terms(self):
        self.refuse(KindMismatch, "def a : Int = 1 2;", "def a : Int = 1; def b : Int = a 1;")
        self.refuse(LevelMismatch, "def a : !Int = let x = 1 in !x;", "def a : Int = 1; def b : Int = let x = !a in x;")
        self.refuse(UseMismatch, "def a : Int -> Int = \\x:Int. 1;", "def a : Int = 1; def b : Int = let x = a in a;")

    def test_stated_kinds(self):
        self.refuse(KindMismatch, "def a : !Int = 1;", "def a : Int = !1;", "def a : Int -> !Int = \\x:!Int. x;",
                    "def a : (Int, Int) = (1, !1);", "def a : !Int -> Int = \\x:!Int. x;")
        self.refuse(KindMismatch, "def a : !Int = 1; def b : Int = 1;", "def a : Int = 1; def b : !Int = 1;",
                    "def a : Int = 1; def b : !Int = a;")

    def test_the_stated_kind_comes_behind_the_errors_of_the_term(self):
        self.refuse(LevelMismatch, "def a : Int = let x = 1 in !x;")
        self.refuse(UseMismatch, "def a : Int = \\x:Int. 1;")

    def test_the_first_definition_that_is_not_right(self):
        bad = {KindMismatch: "1 2", LevelMismatch: "let x = !1 in x", UseMismatch: "let x = 1 in 1"}
        for first, one in bad.items():
            for second, other in bad.items():
                self.refuse(first, f"def a : Int = {one}; def b : Int = {other};",
                            f"def z : Int = 1; def a : Int = {one}; def b : Int = {other}; def c : Int = 1;")
        self.refuse(KindMismatch, "def a : !Int = 1; def b : Int = let x = !1 in x;")
        self.refuse(LevelMismatch, "def b : Int = let x = !1 in x; def a : !Int = 1;")
        self.refuse(UseMismatch, "def a : Int = let x = 1 in 1; def b : Int = a !1;")

    def test_it_is_as_if_the_linked_terms_were_checked(self):
        maker = Maker(9)
        for _ in range(60):
            program = []
            for name in ("aa", "bb", "cc"):
                term = maker.checked()
                kind = check_term(term)
                if maker.random.random() < 0.2:
                    term = maker.spoiled(term)
                if maker.random.random() < 0.1:
                    kind = ("bang", kind)
                for _ in range(2):
                    term = with_definition(term, maker.random.randrange(12), ["aa", "bb"][:len(program)])
                program.append((name, kind, term))
            self.assertEqual(outcome(check_program, program), outcome(checked_one_by_one, program), program)

    def test_the_program_is_not_modified(self):
        program = read_program("def a : Int = 1; def b : Int = a + a;")
        before = list(program)
        check_program(program)
        check_program(program)
        self.assertEqual(program, before)

    def test_programs_whose_linked_terms_are_large(self):
        text = "def a0 : Int = 1;" + "".join([f"def a{at} : Int = a{at - 1} + a{at - 1};" for at in range(1, 200)])
        self.expect(text)
        self.refuse(KindMismatch, text + "def b : !Int = a199;")

    def test_deep_kinds(self):
        kind = INT
        for _ in range(3000):
            kind = ("fun", INT, kind)
        self.assertIsNone(check_program(read_program("def a : " + "Int -> " * 300 + "Int = " + body(300) + ";")))
        self.assertRaises(KindMismatch, check_program, [("a", kind, ("num", 1))])


def body(count):
    """A function of so many numbers, which adds them all up."""
    names = [f"x{at}" for at in range(count)]
    return "".join([f"\\{name}:Int. " for name in names]) + " + ".join(names)


def with_definition(term, at, names):
    """A term in which the number that comes at a place is replaced by the name of a definition."""
    count = [at]

    def changed(node):
        if node[0] == "num":
            count[0] -= 1
            return ("var", names[-1]) if count[0] == 0 and names else node
        start = 3 if node[0] == "lam" else 1
        return node[:start] + tuple(changed(part) if isinstance(part, tuple) else part for part in node[start:])

    return changed(term)


def checked_one_by_one(program):
    """Point 16, word by word."""
    if program:
        linked(program, program[-1][0])
    for name, kind, _ in program:
        if check_term(linked(program, name)) != kind:
            raise KindMismatch(name)


def outcome(check, program):
    try:
        return check(program)
    except SharenetError as error:
        return (type(error), getattr(error, "name", None))
