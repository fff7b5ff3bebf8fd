"""Simplification: points 48 and 49."""

import random
import unittest

from sharenet.building import net_of
from sharenet.checking import check_term
from sharenet.core import core_of
from sharenet.errors import KindMismatch, LevelMismatch, UnknownName, UseMismatch
from sharenet.families import work_of
from sharenet.plain import normal_form
from sharenet.reader import read_term
from sharenet.running import run_net
from sharenet.simplifying import is_simple, simplified
from sharenet.terms import is_name
from sharenet.writer import write_term
from tests.oracles import free_occurrences, nodes, parts, replaced, with_own_names
from tests.sharing import applied, doubled, made, numeral

FUN = "(Int -> Int)"
IDENTITY = ("lam", "x", ("int",), ("var", "x"))


def uses(term):
    """How often the name of a let occurs."""
    return [name for name, _ in free_occurrences(term[3])].count(term[1])


def rule_at(term):
    """If a rule applies at the root of a term."""
    if term[0] == "app":
        return term[1][0] == "lam"
    if term[0] == "let":
        return term[2][0] == "num" or term[2][0] == "box" and uses(term) == 1
    if term[0] == "split":
        return term[3][0] == "pair"
    return term[0] == "op" and term[2][0] == term[3][0] == "num" and number(term) >= 0


def number(term):
    a, b = term[2][1], term[3][1]
    return {"+": a + b, "-": a - b, "*": a * b}[term[1]]


def after_rule(term):
    """A term with own names after the rule at its root."""
    if term[0] == "app":
        return replaced(term[1][3], term[1][1], term[2])
    if term[0] == "let":
        return replaced(term[3], term[1], term[2] if term[2][0] == "num" else term[2][1])
    if term[0] == "split":
        return replaced(replaced(term[4], term[1], term[3][1]), term[2], term[3][2])
    return ("num", number(term))


def places(term):
    """The paths of all nodes where a rule applies."""
    found = [()] if rule_at(term) else []
    for at, part in enumerate(parts(term)):
        found.extend((at, *path) for path in places(part))
    return found


def after_rule_at(term, path):
    if not path:
        return after_rule(term)
    inside = parts(term)
    inside[path[0]] = after_rule_at(inside[path[0]], path[1:])
    start = len(term) - len(inside)
    return (*term[:start], *inside)


def slowly(term, choices):
    """A simple term, by rules at drawn nodes."""
    term = with_own_names(term, {}, [0])
    while places(term):
        term = after_rule_at(term, choices.choice(places(term)))
    return term


def unnamed(term, names=()):
    """A term with numbers for its names, so that equal ones differ at most in their names."""
    form = term[0]
    if form == "var":
        return ("var", names.index(term[1]))
    if form == "lam":
        return ("lam", term[2], unnamed(term[3], (term[1], *names)))
    if form == "let":
        return ("let", unnamed(term[2], names), unnamed(term[3], (term[1], *names)))
    if form == "split":
        return ("split", unnamed(term[3], names), unnamed(term[4], (term[1], term[2], *names)))
    return (*term[:len(term) - len(parts(term))], *[unnamed(part, names) for part in parts(term)])


class Rules(unittest.TestCase):
    def expect(self, text, wanted):
        """The only simple term, but for the names, that the rules lead to."""
        term = read_term(text)
        found = simplified(term)
        self.assertEqual(unnamed(found), unnamed(read_term(wanted)), write_term(found))
        self.assertEqual(check_term(found), check_term(term))
        self.assertIs(is_simple(found), True)
        self.assertIs(is_simple(term), text == wanted)
        self.assertEqual(normal_form(core_of(found)), normal_form(core_of(term)))

    def test_functions(self):
        self.expect("(\\x:Int. x) 5", "5")
        self.expect("(\\x:Int. 2 * x) 5", "10")
        self.expect("\\a:Int. (\\x:Int. x * 2) (a + 1)", "\\a:Int. (a + 1) * 2")
        self.expect(f"(\\f:{FUN}. \\x:Int. f x) (\\y:Int. y - 1)", "\\x:Int. x - 1")
        self.expect(f"\\g:{FUN}. (\\f:{FUN}. \\x:Int. f x) g", f"\\g:{FUN}. \\x:Int. g x")
        self.expect("(\\x:!Int. let y = x in !(y + y)) !(1 - 2)", "let y = !(1 - 2) in !(y + y)")

    def test_boxes_as_the_part_of_a_let(self):
        self.expect("let f = !(\\x:Int. x) in !(f 1)", "!1")
        self.expect("let f = !(\\x:Int. x) in !(f (f 1))", "let f = !(\\x:Int. x) in !(f (f 1))")
        self.expect("let x = !(1 - 2) in !(x * x)", "let x = !(1 - 2) in !(x * x)")
        self.expect("let x = !7 in !(x * x)", "let x = !7 in !(x * x)")
        self.expect("let x = !!7 in !(let y = x in !(y - y))", "!(let y = !7 in !(y - y))")
        self.expect("let x = !(2 - 3) in !(x * 4)", "!((2 - 3) * 4)")
        self.expect("\\f:!Int. let x = f in !(x * 4)", "\\f:!Int. let x = f in !(x * 4)")
        self.expect("\\f:!Int. let x = let y = f in !(y - y) in !(x * 4)",
                    "\\f:!Int. let x = let y = f in !(y - y) in !(x * 4)")

    def test_numbers_as_the_part_of_a_let(self):
        self.expect("let x = 3 in x", "3")
        self.expect("let x = 3 in (x, x)", "(3, 3)")
        self.expect("\\a:Int. let x = 3 in a * x - x", "\\a:Int. a * 3 - 3")
        self.expect("let x = 1 + 2 in x * x", "9")
        self.expect("let x = 1 - 2 in x * x", "let x = 1 - 2 in x * x")
        self.expect("let x = 1 - 2 in x * 2", "let x = 1 - 2 in x * 2")
        self.expect("\\a:Int. let x = a in x * 2", "\\a:Int. let x = a in x * 2")

    def test_pairs(self):
        self.expect("let (x, y) = (1, 2) in (y, x)", "(2, 1)")
        self.expect("\\a:Int. \\b:Int. let (x, y) = (a, b) in x - y", "\\a:Int. \\b:Int. a - b")
        self.expect("\\p:(Int, Int). let (x, y) = p in (y, x)", "\\p:(Int, Int). let (x, y) = p in (y, x)")
        self.expect("let (x, y) = let (v, w) = ((1, 2), (3, 4)) in (w, v) in (x, y)", "((3, 4), (1, 2))")

    def test_operations(self):
        self.expect("1 + 2", "3")
        self.expect("3 * 4", "12")
        self.expect("5 - 2", "3")
        self.expect("5 - 5", "0")
        self.expect("4 - 5", "4 - 5")
        self.expect("0 * 0", "0")
        self.expect("(4 - 5) * (2 * 3)", "(4 - 5) * 6")
        self.expect("4 - 5 + 9", "4 - 5 + 9")
        self.expect("9 - (5 - 4) - 20", "8 - 20")
        large = simplified(("op", "*", ("num", 10 ** 30), ("num", 10 ** 30)))
        self.assertEqual(large, ("num", 10 ** 60))

    def test_rules_inside_and_below_binders(self):
        for text, wanted in (("{}", "{}"), ("!{}", "!{}"), ("({}, 7)", "({}, 7)"), ("(7, {})", "(7, {})"),
                             ("\\z:Int. z * {}", "\\z:Int. z * {}"),
                             ("\\z:Int. let y = z in y * {}", "\\z:Int. let y = z in y * {}"),
                             ("\\z:Int. let y = z - {} in y - y", "\\z:Int. let y = z - {} in y - y"),
                             ("\\p:(Int, Int). let (z, y) = p in z * y + {}", "\\p:(Int, Int). let (z, y) = p in z * y + {}"),
                             ("\\f:Int -> Int. f {}", "\\f:Int -> Int. f {}"),
                             ("(\\f:Int -> Int. f) (\\y:Int. y * {})", "\\y:Int. y * {}")):
            for rule, end in (("((\\x:Int. x) 5)", "5"), ("(let x = 3 in x)", "3"), ("(2 + 2)", "4"), ("(1 * 1)", "1"),
                              ("(let (x, w) = (1, 0) in x - w)", "1")):
                self.expect(text.replace("{}", rule), wanted.replace("{}", end))

    def test_one_rule_makes_way_for_another(self):
        self.expect(f"(\\f:{FUN}. f 5) (\\x:Int. x + 1)", "6")
        self.expect("let (f, x) = (\\y:Int. y * 2, 4) in f x", "8")
        self.expect("(\\p:(Int, Int). let (x, y) = p in x + y) (1, 2)", "3")
        self.expect("(\\b:!Int. let x = b in !(x + 1)) !2", "!3")
        self.expect("(\\n:Int. let x = n in x * x) 7", "49")
        self.expect("((\\x:Int. \\y:Int. x - y) 9) 4", "5")
        self.expect("let x = 1 + 1 in let y = x + x in let z = y * y in z - x", "14")

    def test_names_that_would_be_captured(self):
        self.expect("\\a:Int. (\\x:Int. \\a:Int. x - a) a", "\\a:Int. \\b:Int. a - b")
        self.expect("\\y:Int. let (x, z) = (y, 5) in \\y:Int. x * y - z", "\\a:Int. \\b:Int. a * b - 5")
        self.expect("\\g:!Int. let y = g in !((\\x:Int. let y = x in y - y) y)",
                    "\\g:!Int. let y = g in !(let z = y in z - z)")
        self.expect("\\y:!Int. let a = y in let x = !(a - a) in !(\\a:Int. x - a)", "\\y:!Int. let a = y in !(\\b:Int. a - a - b)")
        self.expect("\\a:(Int, Int). (\\x:(Int, Int). let (a, b) = x in b - a) a", "\\p:(Int, Int). let (a, b) = p in b - a")
        self.expect("\\a:Int. \\b:Int. (\\x:Int. \\p:(Int, Int). let (a, b) = p in a * b * x) (a - b)",
                    "\\a:Int. \\b:Int. \\p:(Int, Int). let (c, d) = p in c * d * (a - b)")
        self.expect("\\a:Int. (\\x:Int. \\a:Int. (\\y:Int. \\a:Int. x * y - a) a) a", "\\a:Int. \\b:Int. \\c:Int. a * b - c")

    def test_simple_terms(self):
        for text in ("5", "\\x:Int. x", "!5", "(1, !2)", "1 - 2", "\\x:Int. let y = x in y + y", f"\\f:{FUN}. \\x:Int. f x",
                     "let f = !(\\x:Int. x) in !(f (f 1))", "\\p:(Int, Int). let (a, b) = p in a - b"):
            self.expect(text, text)

    def test_the_forms_of_the_result(self):
        found = simplified(read_term("(\\x:Int. (x, !1)) 2"))
        self.assertEqual(found, ("pair", ("num", 2), ("box", ("num", 1))))
        self.assertEqual(simplified(read_term("\\x:Int -> (Int, !Int). x")),
                         ("lam", "x", ("fun", ("int",), ("pair", ("int",), ("bang", ("int",)))), ("var", "x")))


class AgainstWords(unittest.TestCase):
    def check(self, term, choices):
        kind = check_term(term)
        found = simplified(term)
        self.assertEqual(check_term(found), kind)
        self.assertIs(is_simple(found), True)
        self.assertEqual(places(found), [])
        self.assertIs(is_simple(term), places(term) == [])
        self.assertEqual(unnamed(found), unnamed(slowly(term, choices)))
        for node in nodes(found):
            for name in node[1:3]:
                self.assertTrue(not isinstance(name, str) or name in ("+", "-", "*") or is_name(name), name)
        self.assertEqual(read_term(write_term(found)), found)
        before, after = net_of(term), net_of(found)
        for most, some in zip(run_net(before)[:2], run_net(after)[:2]):
            self.assertLessEqual(some, most)
        self.assertEqual(normal_form(core_of(found)), normal_form(core_of(term)))

    def test_made_terms(self):
        choices = random.Random(140)
        for term in made(120):
            with self.subTest(write_term(term)):
                self.check(term, choices)

    def test_terms_with_many_rules(self):
        choices = random.Random(141)
        for term in (doubled(3), applied(5, IDENTITY, ("num", 3)), ("app", numeral(3), ("box", IDENTITY))):
            self.check(term, choices)

    def test_the_work(self):
        for term in made(30):
            for most, some in zip(work_of(term, most=20000), work_of(simplified(term), most=20000)):
                self.assertLessEqual(some, most)

    def test_sizes_and_depths(self):
        term = ("num", 1)
        for _ in range(600):
            term = ("app", ("lam", "x", ("int",), ("op", "+", ("var", "x"), ("num", 1))), term)
        self.assertEqual(simplified(term), ("num", 601))
        self.assertIs(is_simple(term), False)
        chain = ("var", "x")
        for _ in range(300):
            chain = ("let", "x", chain, ("op", "-", ("var", "x"), ("var", "x")))
        chain = ("lam", "x", ("int",), chain)
        self.assertIs(is_simple(chain), True)
        self.assertEqual(unnamed(simplified(chain)), unnamed(chain))


class Errors(unittest.TestCase):
    def test_the_errors_of_check_term(self):
        for text, error in (("y", UnknownName), ("(\\x:Int. x) y", UnknownName), ("1 2", KindMismatch),
                            ("(\\x:Int. x) (1, 2)", KindMismatch), ("let x = 1 in !x", LevelMismatch),
                            ("(\\x:Int. !x) 1", LevelMismatch), ("(\\x:Int. 1) 2", UseMismatch),
                            ("let x = !1 in 2", UseMismatch), ("let (x, y) = (1, 2) in x", UseMismatch)):
            with self.subTest(text):
                self.assertRaises(error, simplified, read_term(text))
        with self.assertRaises(UnknownName) as caught:
            simplified(read_term("a + b"))
        self.assertEqual(caught.exception.name, "a")
