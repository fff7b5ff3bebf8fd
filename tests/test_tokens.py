"""Tokens: point 5."""

import string
import unittest

from sharenet.errors import InvalidText
from sharenet.tokens import tokens_of


class Tokens(unittest.TestCase):
    def expect(self, text, tokens):
        found = tokens_of(text)
        self.assertEqual(found, tokens)
        self.assertIs(type(found), list)

    def refuse(self, *texts):
        for text in texts:
            with self.subTest(text=text):
                self.assertRaises(InvalidText, tokens_of, text)

    def test_no_tokens(self):
        self.expect("", [])
        self.expect(" \n  \n", [])

    def test_each_single_character(self):
        for sign in "\\:.=+-*!();,":
            self.expect(sign, [sign])
            self.expect(sign + sign, [sign, sign])
            self.expect(f"a{sign}1", ["a", sign, "1"])
        self.expect("\\:.=+-*!();,", ["\\", ":", ".", "=", "+", "-", "*", "!", "(", ")", ";", ","])

    def test_names_and_words(self):
        self.expect("a", ["a"])
        self.expect("z9", ["z9"])
        self.expect("abcdefgh", ["abcdefgh"])
        self.expect("a1234567", ["a1234567"])
        self.expect("let in def", ["let", "in", "def"])
        self.expect("lets int inn def0 letin", ["lets", "int", "inn", "def0", "letin"])

    def test_all_letters_and_digits(self):
        for sign in string.ascii_lowercase:
            self.expect(f"{sign} {sign}x x{sign} 1", [sign, f"{sign}x", f"x{sign}", "1"])
            self.refuse(f"1{sign}")
        for sign in string.digits:
            self.expect(f"{sign} x{sign} 1{sign}", [sign, f"x{sign}", f"1{sign}"])
        for sign in string.ascii_uppercase:
            self.refuse(sign, f"x{sign}", f"1{sign}", f"Int{sign}")

    def test_int(self):
        self.expect("Int", ["Int"])
        self.expect("Int Int", ["Int", "Int"])
        self.refuse("Into", "Int1", "IntInt", "INT", "In", "I", "X", "A1", "iNt", "aInt")

    def test_names_that_are_too_long(self):
        self.refuse("abcdefghi", "a12345678", "letletlet")

    def test_numbers(self):
        self.expect("0", ["0"])
        self.expect("7", ["7"])
        self.expect("123456789", ["123456789"])
        self.expect("100000000", ["100000000"])
        self.expect("10 20", ["10", "20"])
        self.refuse("1234567890", "1000000000", "007", "00", "01", "0000000001")

    def test_sequences_are_read_as_a_whole(self):
        self.refuse("12a", "1A", "0x", "aB", "letX", "1Int", "0let", "a1B")
        self.refuse("123456789a", "x 12a", "12a x", "a+00")

    def test_arrows(self):
        self.expect("->", ["->"])
        self.expect("-", ["-"])
        self.expect("- ", ["-"])
        self.expect("-->", ["-", "->"])
        self.expect("->->", ["->", "->"])
        self.expect("->-", ["->", "-"])
        self.expect("a->b-c", ["a", "->", "b", "-", "c"])
        self.expect("a -1->", ["a", "-", "1", "->"])
        self.refuse(">", "- >", "->>", "-\n>", "=>")

    def test_blanks(self):
        self.expect(" a ", ["a"])
        self.expect("a\nb", ["a", "b"])
        self.expect("a b", ["a", "b"])
        self.expect("ab", ["ab"])
        self.expect("\n\na  \n +\n1\n", ["a", "+", "1"])
        self.expect("1 2", ["1", "2"])
        self.expect("abcd efghi", ["abcd", "efghi"])

    def test_other_blanks_are_no_tokens(self):
        self.refuse("\t", "a\tb", "a\r\nb", "\r", "\f", "\v", "a\u00a0b", "\u2028", "\u3000", "\0", "\x1c", "\x85")

    def test_other_characters_are_no_tokens(self):
        for sign in "\"#$%&'/<>?@[]^_`{|}~":
            self.refuse(sign, f"a {sign}", f"{sign} a", f"a{sign}b")

    def test_letters_and_digits_outside_ascii(self):
        for sign in ("\u00e9", "\u00df", "\u03b1", "\u0430", "\u0661", "\u00b2", "\u2160", "\uff41", "\uff11",
                     "\u017f", "\u0131", "\u00aa", "\u00c9", "\U0001d4ea", "\U0001f600", "\ud800"):
            self.refuse(sign, f"a{sign}", f"{sign}a", f"1{sign}", f"Int{sign}", f"a {sign} b", f"le{sign}t")

    def test_a_whole_definition(self):
        self.expect("def f:Int->!Int=\\x:Int. let y=x in !(y,2*y);", [
            "def", "f", ":", "Int", "->", "!", "Int", "=", "\\", "x", ":", "Int", ".", "let", "y", "=", "x", "in",
            "!", "(", "y", ",", "2", "*", "y", ")", ";"])

    def test_tokens_are_strings(self):
        self.assertTrue(all(type(token) is str for token in tokens_of("\\x:Int. x + 12 -> (a, b);")))

    def test_every_returned_list_is_new(self):
        first = tokens_of("a + b")
        first.append("c")
        self.assertEqual(tokens_of("a + b"), ["a", "+", "b"])
        self.assertIsNot(tokens_of(""), tokens_of(""))

    def test_a_long_text(self):
        self.expect("x1 -> " * 20000, ["x1", "->"] * 20000)
        self.refuse("a" * 100000, "1" * 100000, "A" * 100000)
