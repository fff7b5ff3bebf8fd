"""The net of a checked term: point 28."""

import unittest

from sharenet.building import net_of
from sharenet.canonical import canonical_text
from sharenet.core import core_of
from sharenet.errors import KindMismatch, LevelMismatch, UnknownName, UseMismatch
from sharenet.net import Net
from sharenet.readback import read_back
from sharenet.reader import read_term
from tests.nets import problems
from tests.oracles import kind_of, with_own_names
from tests.sharing import made


class SlowBuilder:
    """Builds the net of a term with own names: first all agents with a list of places for each occurrence."""

    def __init__(self):
        self.agents, self.wires = [("root", 0, None)], []

    def agent(self, kind, level, data=None):
        self.agents.append((kind, level, data))
        return len(self.agents) - 1

    def output(self, term, level, names):
        """The output of a term; names is a dict from names to the lists of the outputs of their next occurrences."""
        form = term[0]
        if form == "var":
            return names[term[1]].pop(0)
        if form == "num":
            return (self.agent("num", 0, term[1]), 0)
        if form == "box":
            return self.output(term[1], level + 1, names)
        if form == "lam":
            name = self.agent("lam", level)
            self.wires.append(((name, 2), self.output(term[3], level, {**names, term[1]: [(name, 1)]})))
            return (name, 0)
        if form == "split":
            name = self.agent("split", level)
            self.wires.append(((name, 0), self.output(term[3], level, names)))
            return self.output(term[4], level, {**names, term[1]: [(name, 1)], term[2]: [(name, 2)]})
        if form == "let":
            source = self.output(term[2], level, names)
            fans = [self.agent("fan", level) for _ in range(repr(term[3]).count(f"'var', '{term[1]}'") - 1)]
            outputs = [(fan, 1) for fan in fans] + ([(fans[-1], 2)] if fans else [source])
            for fan, end in zip(fans, [source, *[(fan, 2) for fan in fans]]):
                self.wires.append(((fan, 0), end))
            return self.output(term[3], level, {**names, term[1]: outputs})
        start = 1 if form == "pair" else 0
        name = self.agent(form, level, term[1] if form == "op" else None)
        for port, part in enumerate(term[-2:]):
            self.wires.append(((name, port + start), self.output(part, level, names)))
        return (name, 0 if form == "pair" else 2)


def slow_net(term):
    builder = SlowBuilder()
    builder.wires.append(((0, 0), builder.output(with_own_names(term, {}, [0]), 0, {})))
    return Net(builder.agents, builder.wires)


class Building(unittest.TestCase):
    def expect(self, text, wanted):
        net = net_of(read_term(text))
        self.assertIsInstance(net, Net)
        self.assertEqual(canonical_text(net), wanted)
        self.assertEqual(net.names(), list(range(len(net))))

    def test_the_example_of_the_interface(self):
        self.expect("\\x:Int. let y = x in y * y", "root 1.0; lam/0 0.0 2.0 3.2; fan/0 1.1 3.0 3.1; op/0=* 2.1 2.2 1.2")

    def test_every_form(self):
        self.expect("5", "root 1.0; num=5 0.0")
        self.expect("1 - 2", "root 1.2; op/0=- 2.0 3.0 0.0; num=1 1.0; num=2 1.1")
        self.expect("\\x:Int. x", "root 1.0; lam/0 0.0 1.2 1.1")
        self.expect("(\\x:Int. x) 3", "root 1.2; app/0 2.0 3.0 0.0; lam/0 1.0 2.2 2.1; num=3 1.1")
        self.expect("!5", "root 1.0; num=5 0.0")
        self.expect("(1, 2)", "root 1.0; pair/0 0.0 2.0 3.0; num=1 1.1; num=2 1.2")
        self.expect("let (x, y) = (1, 2) in (y, x)",
                    "root 1.0; pair/0 0.0 2.2 2.1; split/0 3.0 1.2 1.1; pair/0 2.0 4.0 5.0; num=1 3.1; num=2 3.2")
        self.expect("let x = 5 in x", "root 1.0; num=5 0.0")

    def test_operations(self):
        for sign in "+-*":
            self.expect(f"7 {sign} 7", f"root 1.2; op/0={sign} 2.0 3.0 0.0; num=7 1.0; num=7 1.1")

    def test_names_of_let_with_several_occurrences(self):
        self.expect("let x = 5 in (x, 1)", "root 1.0; pair/0 0.0 2.0 3.0; num=5 1.1; num=1 1.2")
        self.expect("let x = 5 in (x, x)", "root 1.0; pair/0 0.0 2.1 2.2; fan/0 3.0 1.1 1.2; num=5 2.0")
        self.expect("let x = 5 in (x, (x, x))",
                    "root 1.0; pair/0 0.0 2.1 3.0; fan/0 4.0 1.1 5.0; pair/0 1.2 5.1 5.2; num=5 2.0; fan/0 2.2 3.1 3.2")
        self.expect("let x = 5 in ((x, x), (x, x))",
                    "root 1.0; pair/0 0.0 2.0 3.0; pair/0 1.1 4.1 5.1; pair/0 1.2 6.1 6.2; fan/0 7.0 2.1 5.0; "
                    "fan/0 4.2 2.2 6.0; fan/0 5.2 3.1 3.2; num=5 4.0")

    def test_names_of_let_in_let(self):
        self.expect("let x = 5 in let y = x in (y, y)", "root 1.0; pair/0 0.0 2.1 2.2; fan/0 3.0 1.1 1.2; num=5 2.0")
        self.expect("let x = 5 in let y = (x + x) in (y, y)",
                    "root 1.0; pair/0 0.0 2.1 2.2; fan/0 3.2 1.1 1.2; op/0=+ 4.1 4.2 2.0; fan/0 5.0 3.0 3.1; num=5 4.0")
        self.expect("let x = 5 in let y = x in (y, x)", "root 1.0; pair/0 0.0 2.1 2.2; fan/0 3.0 1.1 1.2; num=5 2.0")

    def test_the_order_of_the_occurrences_is_from_the_left(self):
        self.expect("let x = 5 in let y = x in (x, y)", "root 1.0; pair/0 0.0 2.2 2.1; fan/0 3.0 1.2 1.1; num=5 2.0")
        self.expect("let x = 5 in (\\z:Int. z + x) x",
                    "root 1.2; app/0 2.0 3.2 0.0; lam/0 1.0 4.0 4.2; fan/0 5.0 4.1 1.1; op/0=+ 2.1 3.1 2.2; num=5 3.0")
        self.expect("let x = 5 in let (a, b) = (x, x) in (b, (x, a))",
                    canonical_text(slow_net(read_term("let x = 5 in let (a, b) = (x, x) in (b, (x, a))"))))

    def test_variables_of_functions_and_splits(self):
        self.expect("\\f:Int -> Int. \\x:Int. f x",
                    "root 1.0; lam/0 0.0 2.0 3.0; app/0 1.1 3.1 3.2; lam/0 1.2 2.1 2.2")
        self.expect("\\p:(Int, Int). let (x, y) = p in y - x",
                    "root 1.0; lam/0 0.0 2.0 3.2; split/0 1.1 3.1 3.0; op/0=- 2.2 2.1 1.2")
        self.expect("\\x:Int. (\\x:Int. x) x", "root 1.0; lam/0 0.0 2.1 2.2; app/0 3.0 1.1 1.2; lam/0 2.0 3.2 3.1")

    def test_levels(self):
        self.expect("!(\\x:Int. x)", "root 1.0; lam/1 0.0 1.2 1.1")
        self.expect("!!!(1 + 2)", "root 1.2; op/3=+ 2.0 3.0 0.0; num=1 1.0; num=2 1.1")
        self.expect("!(1, !(2, 3))",
                    "root 1.0; pair/1 0.0 2.0 3.0; num=1 1.1; pair/2 1.2 4.0 5.0; num=2 3.1; num=3 3.2")
        self.expect("!((\\x:Int. x) 3)", "root 1.2; app/1 2.0 3.0 0.0; lam/1 1.0 2.2 2.1; num=3 1.1")
        self.expect("!(let (x, y) = (1, 2) in x - y)",
                    "root 1.2; op/1=- 2.1 2.2 0.0; split/1 3.0 1.0 1.1; pair/1 2.0 4.0 5.0; num=1 3.1; num=2 3.2")
        self.expect("(!(\\x:Int. x), \\x:Int. x)",
                    "root 1.0; pair/0 0.0 2.0 3.0; lam/1 1.1 2.2 2.1; lam/0 1.2 3.2 3.1")

    def test_fans_have_the_level_of_the_let(self):
        self.expect("let f = !(\\x:Int. x) in !(f (f 1))",
                    "root 1.2; app/1 2.1 3.2 0.0; fan/0 4.0 1.0 3.0; app/1 2.2 5.0 1.1; lam/1 2.0 4.2 4.1; num=1 3.1")
        self.expect("!(let x = 5 in (x, x))", "root 1.0; pair/1 0.0 2.1 2.2; fan/1 3.0 1.1 1.2; num=5 2.0")
        self.expect("!!(let f = !(\\x:Int. x) in !(f, f))",
                    "root 1.0; pair/3 0.0 2.1 2.2; fan/2 3.0 1.1 1.2; lam/3 2.0 3.2 3.1")
        self.expect("\\f:!(Int -> Int). let g = f in !(\\x:Int. g (g x))",
                    "root 1.0; lam/0 0.0 2.0 3.0; fan/0 1.1 4.0 5.0; lam/1 1.2 5.1 4.2; app/1 2.1 5.2 3.2; app/1 2.2 3.1 4.1")

    def test_boxes_around_and_inside(self):
        self.expect("let x = !!1 in !(let y = x in !(y + y))",
                    "root 1.2; op/2=+ 2.1 2.2 0.0; fan/1 3.0 1.0 1.1; num=1 2.0")
        self.expect("let x = !(1, 2) in !(x, x)",
                    "root 1.0; pair/1 0.0 2.1 2.2; fan/0 3.0 1.1 1.2; pair/1 2.0 4.0 5.0; num=1 3.1; num=2 3.2")

    def test_made_terms(self):
        for term in made(100):
            kind_of(term, {})
            net = net_of(term)
            self.assertEqual(canonical_text(net), canonical_text(slow_net(term)))
            self.assertEqual(read_back(net), core_of(term))
            self.assertEqual(problems(net), [])

    def test_the_errors_of_checking(self):
        for text, error in (("\\x:Int. y", UnknownName), ("1 2", KindMismatch), ("let x = 1 in !x", LevelMismatch),
                            ("\\x:Int. 1", UseMismatch), ("x y", UnknownName), ("let x = 1 in 2", UseMismatch)):
            with self.subTest(text):
                self.assertRaises(error, net_of, read_term(text))
        with self.assertRaises(UnknownName) as caught:
            net_of(read_term("\\x:Int. (a, b)"))
        self.assertEqual(caught.exception.name, "a")

    def test_a_net_is_built_even_if_the_core_is_too_large(self):
        term = read_term("let x = 1 in " + "let x = x + x in " * 100 + "x")
        self.assertEqual(len(net_of(term)), 2 + 2 * 100)

    def test_large_and_deep_terms(self):
        total = ("num", 1)
        for _ in range(999):
            total = ("op", "+", total, ("num", 1))
        self.assertEqual(len(net_of(total)), 2000)
        names = ("var", "x")
        for _ in range(600):
            names = ("let", "x", ("op", "+", ("var", "x"), ("num", 1)), names)
        self.assertEqual(len(net_of(("let", "x", ("num", 1), names))), 2 + 1200)
