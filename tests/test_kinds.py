"""Kinds and their texts: points 3 and 6."""

import unittest

from sharenet.kinds import INT, bang_kind, fun_kind, kind_text, pair_kind, same_kind
from sharenet.reader import read_kind

A_TO_B = ("fun", INT, INT)
BOX = ("bang", INT)
PAIR = ("pair", INT, INT)


def small_kinds(depth):
    if depth == 0:
        return [INT]
    inner = small_kinds(depth - 1)
    return ([INT] + [("bang", a) for a in inner]
            + [(form, a, b) for form in ("fun", "pair") for a in inner for b in inner])


class Kinds(unittest.TestCase):
    def test_the_kinds_are_the_tuples_of_the_document(self):
        self.assertEqual(INT, ("int",))
        self.assertEqual(fun_kind(INT, BOX), ("fun", ("int",), ("bang", ("int",))))
        self.assertEqual(fun_kind(BOX, INT), ("fun", ("bang", ("int",)), ("int",)))
        self.assertEqual(bang_kind(PAIR), ("bang", ("pair", ("int",), ("int",))))
        self.assertEqual(pair_kind(INT, BOX), ("pair", ("int",), ("bang", ("int",))))
        self.assertEqual(pair_kind(BOX, INT), ("pair", ("bang", ("int",)), ("int",)))

    def test_the_kinds_are_tuples(self):
        for kind in (INT, fun_kind(INT, INT), bang_kind(INT), pair_kind(INT, INT)):
            self.assertIs(type(kind), tuple)


class KindText(unittest.TestCase):
    def expect(self, kind, text):
        self.assertEqual(kind_text(kind), text)
        self.assertEqual(read_kind(text), kind)

    def test_every_form(self):
        self.expect(INT, "Int")
        self.expect(A_TO_B, "Int -> Int")
        self.expect(BOX, "!Int")
        self.expect(PAIR, "(Int, Int)")

    def test_arrows_beside_arrows(self):
        self.expect(("fun", INT, A_TO_B), "Int -> Int -> Int")
        self.expect(("fun", A_TO_B, INT), "(Int -> Int) -> Int")
        self.expect(("fun", A_TO_B, A_TO_B), "(Int -> Int) -> Int -> Int")
        self.expect(("fun", ("fun", A_TO_B, INT), INT), "((Int -> Int) -> Int) -> Int")
        self.expect(("fun", INT, ("fun", A_TO_B, INT)), "Int -> (Int -> Int) -> Int")

    def test_boxes(self):
        self.expect(("bang", A_TO_B), "!(Int -> Int)")
        self.expect(("bang", PAIR), "!(Int, Int)")
        self.expect(("bang", BOX), "!!Int")
        self.expect(("bang", ("bang", A_TO_B)), "!!(Int -> Int)")

    def test_boxes_beside_arrows(self):
        self.expect(("fun", BOX, INT), "!Int -> Int")
        self.expect(("fun", INT, BOX), "Int -> !Int")
        self.expect(("fun", ("bang", A_TO_B), ("bang", A_TO_B)), "!(Int -> Int) -> !(Int -> Int)")

    def test_pairs(self):
        self.expect(("pair", A_TO_B, A_TO_B), "(Int -> Int, Int -> Int)")
        self.expect(("pair", BOX, ("bang", BOX)), "(!Int, !!Int)")
        self.expect(("pair", PAIR, INT), "((Int, Int), Int)")
        self.expect(("pair", INT, PAIR), "(Int, (Int, Int))")
        self.expect(("pair", ("bang", A_TO_B), ("fun", A_TO_B, INT)), "(!(Int -> Int), (Int -> Int) -> Int)")

    def test_pairs_beside_arrows(self):
        self.expect(("fun", PAIR, PAIR), "(Int, Int) -> (Int, Int)")
        self.expect(("fun", ("pair", A_TO_B, INT), INT), "(Int -> Int, Int) -> Int")

    def test_all_small_kinds_are_read_back(self):
        for kind in small_kinds(2) + [("fun", kind, kind) for kind in small_kinds(2)]:
            self.expect(kind, kind_text(kind))

    def test_each_pair_of_parentheses_is_needed(self):
        for kind in small_kinds(2) + [("bang", kind) for kind in small_kinds(2)]:
            text = kind_text(kind)
            for shorter in without_one_pair(text):
                with self.subTest(text=text, shorter=shorter):
                    self.assertNotEqual(read_or_none(shorter), kind)

    def test_a_deep_kind(self):
        kind, arrows, boxes = INT, INT, INT
        for _ in range(3000):
            kind, arrows, boxes = ("fun", kind, INT), ("fun", INT, arrows), ("bang", boxes)
        self.assertEqual(kind_text(kind), "(" * 2999 + "Int -> Int" + ") -> Int" * 2999)
        self.assertEqual(kind_text(arrows), "Int -> " * 3000 + "Int")
        self.assertEqual(kind_text(boxes), "!" * 3000 + "Int")


class SameKind(unittest.TestCase):
    def test_exactly_equal_kinds_are_the_same(self):
        kinds = small_kinds(2)
        for first in kinds:
            for second in kinds:
                self.assertIs(same_kind(first, second), first == second)

    def test_deep_kinds(self):
        first, second, third = INT, INT, BOX
        for _ in range(5000):
            first, second, third = ("fun", INT, first), ("fun", INT, second), ("fun", INT, third)
        self.assertTrue(same_kind(first, second))
        self.assertFalse(same_kind(first, third))


def without_one_pair(text):
    """The texts that are left when one pair of matching parentheses is taken out."""
    opened = []
    for at, sign in enumerate(text):
        if sign == "(":
            opened.append(at)
        elif sign == ")":
            start = opened.pop()
            yield text[:start] + " " + text[start + 1:at] + " " + text[at + 1:]


def read_or_none(text):
    try:
        return read_kind(text)
    except ValueError:
        return None
