"""Names, sizes, depths and free names: points 2 and 4."""

import unittest

from sharenet.terms import depth_of, free_names, is_name, size_of
from tests.oracles import Maker, free_occurrences, nodes

INT = ("int",)
DEEP_KIND = ("fun", ("bang", ("pair", INT, INT)), ("fun", INT, INT))
X, Y, Z = ("var", "x"), ("var", "y"), ("var", "z")
ONE = ("num", 1)


class Names(unittest.TestCase):
    def test_names(self):
        for text in ("a", "z", "x1", "abcdefgh", "a1234567", "lets", "int", "inn", "defs", "le", "i", "a0", "z9z9"):
            with self.subTest(text):
                self.assertIs(is_name(text), True)

    def test_words_are_no_names(self):
        for text in ("let", "in", "def"):
            self.assertIs(is_name(text), False)

    def test_other_strings_are_no_names(self):
        for text in ("", "abcdefghi", "a12345678", "A", "aB", "Int", "X1", "1", "1a", "0", "a_b", "_a", "a-b", "a+",
                     "a.b", "!", " a", "a ", "a b", " ", "\n", "a\n", "\na", "a\t", "abcdefgh\n", "abcdefg\n", "a'",
                     "\\x", "a\0"):
            with self.subTest(text):
                self.assertIs(is_name(text), False)

    def test_letters_and_digits_outside_ascii(self):
        for sign in ("\u00e9", "\u00df", "\u03b1", "\u0430", "\u0661", "\u00b2", "\uff41", "\uff11", "\u017f",
                     "\u0131", "\u00aa", "\U0001d4ea"):
            for text in (sign, "a" + sign, sign + "a", "a" + sign + "b"):
                with self.subTest(text):
                    self.assertIs(is_name(text), False)


class Sizes(unittest.TestCase):
    def expect(self, term, size, depth):
        self.assertEqual(size_of(term), size)
        self.assertEqual(depth_of(term), depth)

    def test_every_form(self):
        self.expect(X, 1, 1)
        self.expect(("num", 10 ** 50), 1, 1)
        self.expect(("op", "+", X, ONE), 3, 2)
        self.expect(("lam", "x", INT, X), 2, 2)
        self.expect(("app", X, Y), 3, 2)
        self.expect(("box", X), 2, 2)
        self.expect(("let", "x", ONE, X), 3, 2)
        self.expect(("pair", X, Y), 3, 2)
        self.expect(("split", "x", "y", Z, X), 3, 2)

    def test_every_part_counts(self):
        deep = ("box", ("box", X))
        for low, size in ((("op", "*", deep, X), 5), (("op", "*", X, deep), 5), (("app", deep, X), 5),
                          (("app", X, deep), 5), (("let", "x", deep, X), 5), (("let", "x", X, deep), 5),
                          (("pair", deep, X), 5), (("pair", X, deep), 5), (("split", "x", "y", deep, X), 5),
                          (("split", "x", "y", X, deep), 5), (("lam", "x", INT, deep), 4), (("box", deep), 4)):
            with self.subTest(low):
                self.expect(low, size, 4)

    def test_kinds_are_not_counted(self):
        self.expect(("lam", "x", DEEP_KIND, X), 2, 2)
        self.expect(("app", ("lam", "x", DEEP_KIND, X), ONE), 4, 3)

    def test_a_size_of_2000(self):
        row = [("num", n) for n in range(1000)]
        while len(row) > 1:
            pairs = [("pair", *row[at:at + 2]) for at in range(0, len(row) - 1, 2)]
            row = pairs + row[2 * len(pairs):]
        self.expect(("box", row[0]), 2000, 12)

    def test_a_depth_of_200(self):
        left, boxes, lams = ONE, ONE, ONE
        for _ in range(199):
            left, boxes, lams = ("op", "+", left, ONE), ("box", boxes), ("lam", "x", DEEP_KIND, lams)
        self.expect(left, 399, 200)
        self.expect(boxes, 200, 200)
        self.expect(lams, 200, 200)

    def test_larger_terms(self):
        term = ONE
        for _ in range(20000):
            term = ("box", term)
        self.expect(term, 20001, 20001)

    def test_made_terms(self):
        maker = Maker(4)
        for _ in range(30):
            term = maker.checked()
            self.assertEqual(size_of(term), len(nodes(term)))


class FreeNames(unittest.TestCase):
    def expect(self, term, names):
        found = free_names(term)
        self.assertEqual(found, names)
        self.assertIs(type(found), list)

    def test_every_form(self):
        self.expect(X, ["x"])
        self.expect(ONE, [])
        self.expect(("op", "-", X, Y), ["x", "y"])
        self.expect(("app", X, Y), ["x", "y"])
        self.expect(("box", X), ["x"])
        self.expect(("pair", X, Y), ["x", "y"])
        self.expect(("lam", "x", INT, ("app", Y, X)), ["y"])
        self.expect(("let", "x", Z, ("app", Y, X)), ["z", "y"])
        self.expect(("split", "x", "y", Z, ("app", X, Y)), ["z"])

    def test_the_order_is_that_of_the_first_occurrences(self):
        self.expect(("app", ("app", Z, X), ("app", Y, X)), ["z", "x", "y"])
        self.expect(("app", Z, ("app", ("app", Y, Z), X)), ["z", "y", "x"])
        self.expect(("let", "a", Y, ("app", X, Y)), ["y", "x"])
        self.expect(("split", "a", "b", Y, ("app", X, Y)), ["y", "x"])

    def test_each_name_once(self):
        self.expect(("app", ("app", X, X), ("pair", X, ("box", X))), ["x"])

    def test_names_that_are_bound_in_one_place_and_free_in_another(self):
        bound = ("lam", "x", INT, X)
        self.expect(("app", bound, X), ["x"])
        self.expect(("app", X, bound), ["x"])
        self.expect(("app", ("app", bound, Y), X), ["y", "x"])

    def test_let_does_not_bind_in_its_part(self):
        self.expect(("let", "x", X, X), ["x"])
        self.expect(("let", "x", ("app", Y, X), X), ["y", "x"])
        self.expect(("let", "x", ONE, ("let", "x", X, X)), [])

    def test_split_does_not_bind_in_its_part(self):
        self.expect(("split", "x", "y", ("pair", Y, X), ("pair", X, Y)), ["y", "x"])
        self.expect(("split", "x", "y", ONE, ("split", "x", "z", X, Z)), [])
        self.expect(("split", "x", "y", ONE, ("app", ("app", X, Y), Z)), ["z"])

    def test_inner_bindings_hide_outer_ones(self):
        self.expect(("lam", "x", INT, ("app", ("lam", "x", INT, X), X)), [])
        self.expect(("lam", "x", INT, ("app", ("lam", "y", INT, ("app", X, Y)), Y)), ["y"])
        self.expect(("let", "x", ONE, ("app", ("split", "y", "z", X, ("app", X, Y)), Z)), ["z"])

    def test_made_terms(self):
        maker = Maker(5)
        for _ in range(100):
            term = maker.spoiled(maker.spoiled(maker.checked()))
            names = [name for name, _ in free_occurrences(term)]
            self.expect(term, list(dict.fromkeys(names)))

    def test_every_returned_list_is_new(self):
        term = ("app", X, Y)
        free_names(term).append("z")
        self.expect(term, ["x", "y"])

    def test_a_deep_term(self):
        term = X
        for _ in range(3000):
            term = ("box", ("op", "+", term, Y))
        self.expect(term, ["x", "y"])
        for name in ("x", "y"):
            term = ("lam", name, INT, term)
        self.expect(term, [])
