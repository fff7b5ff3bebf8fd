"""Reading programs: point 10."""

import unittest

from sharenet.errors import DuplicateName, InvalidText, TooLarge
from sharenet.reader import read_program

INT = ("int",)
ONE, X = ("num", 1), ("var", "x")
GOOD = "def a : Int = 1;"


class ReadProgram(unittest.TestCase):
    def refuse(self, *texts):
        for text in texts:
            with self.subTest(text=text):
                self.assertRaises(InvalidText, read_program, text)

    def refuse_name(self, text, name):
        with self.subTest(text=text):
            with self.assertRaises(DuplicateName) as caught:
                read_program(text)
            self.assertEqual(caught.exception.name, name)

    def test_the_empty_program(self):
        for text in ("", " ", "\n \n"):
            self.assertEqual(read_program(text), [])

    def test_one_definition(self):
        self.assertEqual(read_program("def a : Int = 1;"), [("a", INT, ONE)])
        self.assertEqual(read_program("def id : Int -> Int = \\x:Int. x;"),
                         [("id", ("fun", INT, INT), ("lam", "x", INT, X))])
        self.assertEqual(read_program("def b : !Int = let x = 1 in !x;"),
                         [("b", ("bang", INT), ("let", "x", ONE, ("box", X)))])

    def test_several_definitions_in_their_order(self):
        program = read_program("def b : Int = 1; def a : !Int = !1;\ndef main : Int = a b;")
        self.assertEqual(program, [("b", INT, ONE), ("a", ("bang", INT), ("box", ONE)),
                                   ("main", INT, ("app", ("var", "a"), ("var", "b")))])
        self.assertIs(type(program), list)
        self.assertTrue(all(type(definition) is tuple for definition in program))

    def test_blanks(self):
        self.assertEqual(read_program("\n def\na\n:\n( Int )\n=\n 1\n;\n\ndef b:Int=1;def c:Int=1;\n"),
                         [("a", INT, ONE), ("b", INT, ONE), ("c", INT, ONE)])

    def test_definitions_are_not_checked(self):
        self.assertEqual(read_program("def a : Int = b !1;")[0][2], ("app", ("var", "b"), ("box", ONE)))

    def test_a_part_is_left_out(self):
        words = ["def", "a", ":", "Int", "=", "1", ";"]
        for at in range(len(words)):
            broken = " ".join(words[:at] + words[at + 1:])
            self.refuse(broken, f"def b : Int = 1; {broken}", f"{broken} def b : Int = 1;")

    def test_a_word_is_doubled(self):
        words = ["def", "a", ":", "Int", "=", "x", ";"]
        for at in range(len(words)):
            broken = " ".join(words[:at + 1] + words[at:])
            if words[at] == "x":
                self.assertEqual(read_program(broken), [("a", INT, ("app", X, X))])
            else:
                self.refuse(broken)

    def test_the_text_ends_too_early(self):
        words = "def a : Int -> Int = \\ x : Int . x ;".split()
        for count in range(1, len(words)):
            self.refuse(" ".join(words[:count]))
        self.assertEqual(len(read_program(" ".join(words))), 1)

    def test_names_of_definitions_are_names(self):
        self.refuse("def let : Int = 1;", "def in : Int = 1;", "def def : Int = 1;", "def Int : Int = 1;",
                    "def 1 : Int = 1;", "def (a) : Int = 1;", "def a b : Int = 1;", "def abcdefghi : Int = 1;")

    def test_other_texts(self):
        self.refuse("1", ";", "a : Int = 1;", GOOD + ";", GOOD + "1", GOOD + GOOD[:-1], "Def a : Int = 1;",
                    "def a : x = 1;", "def a : Int = Int;", "def a : Int = let x = 1;", "def a : Int = (1;",
                    "def a : Int = 1);", "def a : = 1;", "def a : Int, Int = 1;", "def a : Int = 1, 1;",
                    "def a : Int = def b : Int = 1;", "def a : Int = 1.", "def a : Int = let (x, x) = 1 in x;")
        self.refuse(GOOD + "?", "?" + GOOD, GOOD + "\t", GOOD + " 007", "def a : Int = 1234567890;")

    def test_two_definitions_with_the_same_name(self):
        self.refuse_name("def a : Int = 1; def a : Int = 1;", "a")
        self.refuse_name("def b : Int = 1; def a : Int = 1; def a : !Int = !2;", "a")
        self.refuse_name("def a : Int = 1; def b : Int = 1; def a : Int = 1;", "a")

    def test_more_definitions_with_the_same_name(self):
        self.refuse_name("def a : Int = 1; def a : Int = 1; def a : Int = 1;", "a")
        self.refuse_name("def a:Int=1; def b:Int=1; def b:Int=1; def a:Int=1;", "b")
        self.refuse_name("def a:Int=1; def b:Int=1; def a:Int=1; def b:Int=1;", "a")

    def test_other_errors_come_before_those_of_names(self):
        twice = "def a : Int = 1; def a : Int = 1;"
        self.refuse(twice + "def", twice + "?", twice + "def a : Int = ;", "def a : Int = ; " + twice,
                    twice + "def b : Int = (1;")
        self.assertRaises(TooLarge, read_program, twice + "(" * 61)

    def test_too_large_texts(self):
        deep = "def a : Int = " + "(" * 60 + "1" + ")" * 60 + ";"
        self.assertEqual(read_program(deep), [("a", INT, ONE)])
        self.assertEqual(len(read_program(deep + deep.replace("a", "b"))), 2)
        deep_kind = "def a : " + "(" * 60 + "Int" + ")" * 60 + " = 1;"
        self.assertEqual(read_program(deep_kind), [("a", INT, ONE)])
        for text in ("def a : Int = " + "(" * 61 + "1" + ")" * 61 + ";", "def a : " + "(" * 61 + "Int", GOOD + "(" * 61,
                     "(" * 61 + GOOD, GOOD + "let " * 61, "def a : Int = (1; def b : Int = " + "(" * 60,
                     "(" * 61 + "?", GOOD + "(" * 61 + "007"):
            with self.subTest(text=text):
                self.assertRaises(TooLarge, read_program, text)
        self.refuse("?" + "(" * 61, GOOD + "(" * 60, GOOD + "(" * 60 + "?(", "def a : Int = 1); def b : Int = " + "(" * 61)

    def test_many_definitions(self):
        text = "".join([f"def a{at} : Int = {at};\n" for at in range(1000)])
        self.assertEqual(read_program(text), [(f"a{at}", INT, ("num", at)) for at in range(1000)])

    def test_every_returned_list_is_new(self):
        first = read_program(GOOD)
        first.append(("b", INT, ONE))
        self.assertEqual(read_program(GOOD), [("a", INT, ONE)])
