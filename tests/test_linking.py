"""Linking: point 11."""

import unittest

from sharenet.errors import UnknownName
from sharenet.linking import linked
from sharenet.reader import read_program, read_term

INT = ("int",)


def program_of(*definitions):
    """A program of terms, given as texts `NAME = TERM`; linking does not look at the kinds."""
    return read_program("".join(definition.replace("=", ": Int =", 1).join(["def ", ";"])
                                for definition in definitions))


class Linked(unittest.TestCase):
    def expect(self, program, name, text):
        self.assertEqual(linked(program, name), read_term(text))

    def refuse(self, program, name, unknown):
        with self.assertRaises(UnknownName) as caught:
            linked(program, name)
        self.assertEqual(caught.exception.name, unknown)

    def test_terms_without_names(self):
        program = program_of("a = 1", "b = \\x:Int. x")
        self.expect(program, "a", "1")
        self.expect(program, "b", "\\x:Int. x")

    def test_names_of_earlier_definitions(self):
        program = program_of("a = 1 + 2", "b = a * a", "c = (b, !a)", "d = c")
        self.expect(program, "a", "1 + 2")
        self.expect(program, "b", "(1 + 2) * (1 + 2)")
        self.expect(program, "c", "((1 + 2) * (1 + 2), !(1 + 2))")
        self.expect(program, "d", "((1 + 2) * (1 + 2), !(1 + 2))")

    def test_names_in_every_form(self):
        program = program_of("a = 1", "b = \\x:Int. a", "c = a a", "d = !a", "e = let x = a in a", "f = (a, a)",
                             "g = let (x, y) = a in a", "h = a - a", "i = a")
        for name, text in (("b", "\\x:Int. 1"), ("c", "1 1"), ("d", "!1"), ("e", "let x = 1 in 1"), ("f", "(1, 1)"),
                           ("g", "let (x, y) = 1 in 1"), ("h", "1 - 1"), ("i", "1")):
            self.expect(program, name, text)

    def test_bound_names_that_are_also_names_of_definitions(self):
        program = program_of("a = 1", "b = 2", "c = (\\a:Int. a b) a", "d = let a = a in a",
                             "e = !(let (a, b) = (a, b) in b)",
                             "f = let (x, a) = b in (a, b)", "g = let x = (\\b:Int. b) in b")
        self.expect(program, "c", "(\\a:Int. a 2) 1")
        self.expect(program, "d", "let a = 1 in a")
        self.expect(program, "e", "!(let (a, b) = (1, 2) in b)")
        self.expect(program, "f", "let (x, a) = 2 in (a, 2)")
        self.expect(program, "g", "let x = \\b:Int. b in 2")

    def test_bound_names_of_what_is_put_in(self):
        program = program_of("a = \\x:Int. x", "b = \\x:Int. a x", "c = \\a:Int. b a")
        self.expect(program, "b", "\\x:Int. (\\x:Int. x) x")
        self.expect(program, "c", "\\a:Int. (\\x:Int. (\\x:Int. x) x) a")

    def test_an_unknown_wanted_name(self):
        self.refuse([], "a", "a")
        self.refuse(program_of("a = 1"), "b", "b")
        self.refuse(program_of("a = x", "b = a"), "c", "c")
        self.refuse(program_of("a = x"), "x", "x")

    def test_definitions_that_use_themselves(self):
        self.refuse(program_of("a = a"), "a", "a")
        self.refuse(program_of("a = 1", "b = \\x:Int. b x"), "a", "b")

    def test_definitions_that_use_later_ones(self):
        self.refuse(program_of("a = b", "b = 1"), "a", "b")
        self.refuse(program_of("a = b", "b = 1"), "b", "b")

    def test_all_definitions_count(self):
        self.refuse(program_of("a = 1", "b = x"), "a", "x")
        self.refuse(program_of("a = 1", "b = x", "c = a"), "c", "x")

    def test_the_first_unknown_name(self):
        self.refuse(program_of("a = 1", "b = a (y z) x", "c = w"), "c", "y")
        self.refuse(program_of("a = (\\x:Int. x) (x, y)"), "a", "x")
        self.refuse(program_of("a = let z = y in x"), "a", "y")
        self.refuse(program_of("a = 1", "b = a a d c", "c = 1", "d = e"), "a", "d")
        self.refuse(program_of("a = \\x:Int. x + a", "b = c"), "b", "a")

    def test_kinds_stay_as_they_are(self):
        kind = ("fun", ("bang", INT), INT)
        self.assertEqual(linked([("a", INT, ("lam", "x", kind, ("var", "x")))], "a"), ("lam", "x", kind, ("var", "x")))

    def test_the_linked_term_is_a_tuple_of_tuples(self):
        term = linked(program_of("a = 1", "b = a + a"), "b")
        self.assertEqual([type(part) for part in term], [str, str, tuple, tuple])
        self.assertIs(type(term), tuple)

    def test_the_program_is_not_modified(self):
        program = program_of("a = 1", "b = a + a")
        before = list(program)
        self.assertEqual(linked(program, "b"), linked(program, "b"))
        self.assertEqual(program, before)

    def test_long_programs(self):
        program = [("a0", INT, ("num", 1))]
        for at in range(1, 1000):
            program.append((f"a{at}", INT, ("op", "+", ("var", f"a{at - 1}"), ("num", at))))
        term = linked(program, "a999")
        for at in range(999, 0, -1):
            self.assertEqual((term[0], term[1], term[3]), ("op", "+", ("num", at)))
            term = term[2]
        self.assertEqual(term, ("num", 1))
