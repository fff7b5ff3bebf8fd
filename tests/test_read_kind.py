"""Reading kinds: points 6 and 8."""

import itertools
import unittest

from sharenet.errors import InvalidText, TooLarge
from sharenet.reader import read_kind
from tests.grammar import KIND_TOKENS, KindTexts

INT = ("int",)


class ReadKind(unittest.TestCase):
    def expect(self, text, kind):
        self.assertEqual(read_kind(text), kind)

    def refuse(self, *texts):
        for text in texts:
            with self.subTest(text=text):
                self.assertRaises(InvalidText, read_kind, text)

    def test_every_form(self):
        self.expect("Int", INT)
        self.expect("Int -> Int", ("fun", INT, INT))
        self.expect("!Int", ("bang", INT))
        self.expect("(Int, !Int)", ("pair", INT, ("bang", INT)))
        self.expect("(Int)", INT)
        self.expect("((Int))", INT)

    def test_arrows_associate_to_the_right(self):
        self.expect("Int -> !Int -> Int", ("fun", INT, ("fun", ("bang", INT), INT)))
        self.expect("(Int -> !Int) -> Int", ("fun", ("fun", INT, ("bang", INT)), INT))
        self.expect("Int -> (!Int -> Int)", ("fun", INT, ("fun", ("bang", INT), INT)))

    def test_boxes_bind_tighter_than_arrows(self):
        self.expect("!Int -> Int", ("fun", ("bang", INT), INT))
        self.expect("!(Int -> Int)", ("bang", ("fun", INT, INT)))
        self.expect("Int -> !!Int", ("fun", INT, ("bang", ("bang", INT))))
        self.expect("!(Int, Int) -> Int", ("fun", ("bang", ("pair", INT, INT)), INT))

    def test_parts_of_pairs_are_any_kinds(self):
        self.expect("(Int -> Int, !Int -> Int)", ("pair", ("fun", INT, INT), ("fun", ("bang", INT), INT)))
        self.expect("((Int, Int), Int)", ("pair", ("pair", INT, INT), INT))

    def test_blanks(self):
        self.expect(" \n( Int\n->Int,!\nInt)\n", ("pair", ("fun", INT, INT), ("bang", INT)))

    def test_all_short_texts(self):
        texts = KindTexts()
        for count in range(1, 7):
            right = dict(texts.of("loosest", count))
            for tokens in itertools.product(KIND_TOKENS, repeat=count):
                if tokens in right:
                    self.expect(" ".join(tokens), right[tokens])
                else:
                    self.assertRaises(InvalidText, read_kind, " ".join(tokens))

    def test_other_texts(self):
        self.refuse("", " ", "x", "1", "let", "in", "def", "Int Int", "Int ->", "-> Int", "Int - > Int", "Int - Int",
                    "()", "(Int", "Int)", "(Int,)", "(,Int)", "(Int, Int, Int)", "Int, Int", "!", "Int!", "Int !Int",
                    "! -> Int", "Int;", "Int.", "into", "Into", "int", "Int\t", "Int?", "Int -> 007")

    def test_too_many_open_parentheses(self):
        self.expect("(" * 60 + "Int" + ")" * 60, INT)
        self.expect("(" * 60 + "Int" + ")" * 60 + " -> " + "(" * 60 + "Int" + ")" * 60, ("fun", INT, INT))
        for text in ("(" * 61 + "Int" + ")" * 61, "(" * 61, "Int -> " + "(" * 61, "let " * 61, "Int)" + "(" * 62):
            with self.subTest(text=text):
                self.assertRaises(TooLarge, read_kind, text)
        self.refuse("(" * 60, "let " * 60, "Int)" + "(" * 61, "in " + "let " * 61)

    def test_too_many_open_parentheses_in_invalid_texts(self):
        self.assertRaises(TooLarge, read_kind, "(" * 61 + "?")
        self.assertRaises(TooLarge, read_kind, "; x" + "(" * 61 + "Into")
        self.refuse("?" + "(" * 61, "(" * 60 + "?" + "(" * 5, "Into" + "(" * 61, "(" * 60 + "007 (")

    def test_long_texts(self):
        arrows, boxes = INT, INT
        for _ in range(3000):
            arrows, boxes = ("fun", INT, arrows), ("bang", boxes)
        found, wanted = read_kind("Int -> " * 3000 + "Int"), arrows
        while wanted != INT:
            self.assertEqual(found[:2], ("fun", INT))
            found, wanted = found[2], wanted[2]
        self.assertEqual(found, INT)
        found = read_kind("!" * 3000 + "Int")
        for _ in range(3000):
            self.assertEqual((found[0], len(found)), ("bang", 2))
            found = found[1]
        self.assertEqual(found, INT)
