"""Canonical numberings and canonical texts: point 27."""

import random
import unittest

from sharenet.building import net_of
from sharenet.canonical import canonical_order, canonical_text, read_net, same_net
from sharenet.errors import InvalidNet
from sharenet.net import Net
from sharenet.reader import read_term
from sharenet.rules import interact
from tests.nets import PORTS, NetMaker, plain, text_of, wired
from tests.sharing import made

SQUARE = "root 1.0; lam/0 0.0 2.0 3.2; fan/0 1.1 3.0 3.1; op/0=* 2.1 2.2 1.2"


def shuffled(net, order):
    """The net with other names: the agent with the name order[i] gets the name i; its wires are in another order."""
    agents = [net.agent(name) for name in order]
    wires = []
    for name in order:
        for port in range(PORTS[net.agent(name)[0]]):
            peer = net.peer(name, port)
            if (name, port) < peer:
                ends = ((order.index(name), port), (order.index(peer[0]), peer[1]))
                wires.append(ends if port % 2 == 0 else ends[::-1])
    return Net(agents, wires[::-1])


class Orders(unittest.TestCase):
    def test_the_nearest_agents_first(self):
        net = wired("num=1 d; lam/0 a b c; root a; op/0=+ b d c")
        self.assertEqual(canonical_order(net), [2, 1, 3, 0])
        self.assertIsInstance(canonical_order(net), list)

    def test_agents_in_the_order_of_their_numbers_and_not_of_their_ways(self):
        net = wired("root a; pair/0 a b c; pair/0 b d e; pair/0 c f g; num=4 g; num=3 f; num=2 e; num=1 d")
        self.assertEqual(canonical_order(net), [0, 1, 2, 3, 7, 6, 5, 4])

    def test_port_0_first(self):
        net = wired("root a; app/0 c b a; num=1 b; num=2 c")
        self.assertEqual(canonical_order(net), [0, 1, 3, 2])
        net = wired("root a; fan/0 c a b; num=1 b; num=2 c")
        self.assertEqual(canonical_order(net), [0, 1, 3, 2])

    def test_every_call_returns_a_new_list(self):
        net = read_net(SQUARE)
        canonical_order(net).clear()
        self.assertEqual(canonical_order(net), [0, 1, 2, 3])

    def test_agents_that_have_been_cut_off_are_left_out(self):
        net = wired("root a; fan/0 b a c; fan/0 b d c; num=1 d")
        interact(net, (1, 2))
        self.assertEqual(canonical_order(net), [0, 3])


class Texts(unittest.TestCase):
    def test_the_example_of_the_interface(self):
        self.assertEqual(canonical_text(net_of(read_term("\\x:Int. let y = x in y * y"))), SQUARE)

    def test_every_kind(self):
        for text in ("root 1.0; num=5 0.0",
                     "root 1.0; num=0 0.0",
                     "root 1.0; num=-12 0.0",
                     "root 1.0; lam/0 0.0 1.2 1.1",
                     "root 1.0; lam/7 0.0 1.2 1.1",
                     "root 1.2; app/3 2.0 3.0 0.0; num=1 1.0; num=-2 1.1",
                     "root 1.1; fan/12 2.0 0.0 3.0; num=1 1.0; num=2 1.2",
                     "root 1.0; pair/0 0.0 2.0 3.0; num=1 1.1; num=1 1.2",
                     "root 1.1; split/2 1.2 0.0 1.0",
                     "root 1.2; op/1=+ 2.0 3.0 0.0; num=1 1.0; num=1 1.1",
                     "root 1.2; op/0=- 1.1 1.0 0.0",
                     "root 1.2; op/0=* 1.1 1.0 0.0",
                     "root 1.1; op1/4=+5 2.0 0.0; num=1 1.0",
                     "root 1.1; op1/0=--5 2.0 0.0; num=1 1.0",
                     "root 1.1; op1/0=*-5 2.0 0.0; num=1 1.0",
                     "root 1.1; op1/0=+0 2.0 0.0; num=1 1.0"):
            with self.subTest(text):
                net = read_net(text)
                self.assertIsInstance(net, Net)
                self.assertEqual(canonical_text(net), text)
                self.assertEqual(text_of(*plain(net)), text)
                self.assertEqual(net.names(), list(range(len(net))))

    def test_agents_of_read_nets(self):
        net = read_net("root 1.1; op1/4=-5 2.0 0.0; num=-17 1.0")
        self.assertEqual([net.agent(name) for name in net.names()],
                         [("root", 0, None), ("op1", 4, ("-", 5)), ("num", 0, -17)])
        self.assertEqual((net.peer(0, 0), net.peer(1, 0), net.peer(2, 0)), ((1, 1), (2, 0), (1, 0)))
        self.assertEqual(net.pairs(), [(1, 2)])
        self.assertEqual(read_net("root 1.1; op1/0=--5 2.0 0.0; num=1 1.0").agent(1), ("op1", 0, ("-", -5)))

    def test_numbers_of_any_size(self):
        for digits in (63, 64, 65, 4299, 4300, 5000):
            for sign in ("", "-"):
                text = f"root 1.1; op1/0=*{sign}{'9' * digits} 2.0 0.0; num={sign}1{'0' * digits} 1.0"
                self.assertEqual(canonical_text(read_net(text)), text)
        self.assertEqual(read_net(f"root 1.0; num=1{'0' * 5000} 0.0").agent(1)[2], 10 ** 5000)

    def test_other_orders_of_agents_and_wires(self):
        maker, orders = NetMaker(50), random.Random(50)
        for net in [net_of(term) for term in made(50)] + [maker.net(8) for _ in range(100)]:
            order = net.names()
            orders.shuffle(order)
            other = shuffled(net, order)
            self.assertEqual(canonical_text(other), canonical_text(net))
            self.assertIs(same_net(net, other), True)
            self.assertEqual([order[name] for name in canonical_order(other)], canonical_order(net))

    def test_made_nets(self):
        maker = NetMaker(51)
        for many in list(range(1, 20)) * 10:
            net = maker.net(many)
            text = text_of(*plain(net))
            self.assertEqual(canonical_text(net), text)
            self.assertEqual(canonical_text(read_net(text)), text)
            self.assertEqual(canonical_order(read_net(text)), list(range(len(net))))


class SameNets(unittest.TestCase):
    def test_different_nets(self):
        texts = ("root 1.0; num=5 0.0", "root 1.0; num=-5 0.0", "root 1.0; lam/0 0.0 1.2 1.1",
                 "root 1.0; lam/1 0.0 1.2 1.1", "root 1.1; split/2 1.2 0.0 1.0", "root 1.2; split/2 1.1 1.0 0.0",
                 "root 1.1; fan/2 1.2 0.0 1.0", "root 1.2; op/0=- 1.1 1.0 0.0", "root 1.2; op/0=* 1.1 1.0 0.0",
                 "root 1.1; op1/0=+5 2.0 0.0; num=1 1.0", "root 1.1; op1/0=+6 2.0 0.0; num=1 1.0",
                 "root 1.1; op1/0=-5 2.0 0.0; num=1 1.0", SQUARE)
        for first in texts:
            for second in texts:
                self.assertIs(same_net(read_net(first), read_net(second)), first == second)

    def test_names_do_not_matter(self):
        self.assertTrue(same_net(wired("num=1 b; root a; app/0 b b2 a; num=2 b2"),
                                 wired("root a; app/0 b c a; num=1 b; num=2 c")))

    def test_agents_that_have_been_cut_off_do_not_matter(self):
        net = wired("root a; fan/0 b a c; fan/0 b d c; num=1 d")
        interact(net, (1, 2))
        self.assertTrue(same_net(net, read_net("root 1.0; num=1 0.0")))


class WrongTexts(unittest.TestCase):
    RIGHT = [SQUARE, "root 1.1; op1/4=--5 2.0 0.0; num=-17 1.0", "root 1.2; app/3 2.0 3.0 0.0; num=1 1.0; num=-2 1.1"]

    def refuse(self, *texts):
        for text in texts:
            with self.subTest(text):
                self.assertRaises(InvalidNet, read_net, text)

    def test_texts_that_are_no_nets(self):
        self.refuse("", " ", ";", "; ", "root", "root 0.0", "root 1.0", "num=5 0.0", "x", "root 1.0; num 0.0",
                    "root 1.0; num=5", "root 1.0; num=5 0.0; ", "; root 1.0; num=5 0.0", "root 1.0;num=5 0.0",
                    "root 1.0;  num=5 0.0", "root 1.0; num=5 0.0;", "root 1.0\nnum=5 0.0", "root 1.0; root 0.0")

    def test_one_word_changed(self):
        for text in self.RIGHT:
            words = text.replace(";", " ;").split(" ")
            for at, word in enumerate(words):
                for other in ("", "x", ";", "-", ".", "1", "9.9", "-1.0", "0.0", "num=3", "lam/0", "root", "fan/0=1"):
                    if other == word or {other, word} == {"num=1", "num=3"}:
                        continue
                    changed = " ".join([*words[:at], other, *words[at + 1:]]).replace(" ;", ";")
                    if changed != text:
                        self.check_changed(changed)

    def check_changed(self, text):
        """A changed text is wrong, or it is the text of another net, if only data or levels were changed."""
        try:
            net = read_net(text)
        except InvalidNet:
            return
        self.assertEqual(text_of(*plain(net)), text)

    def test_changed_words_that_are_wrong_for_sure(self):
        self.refuse("root/0 1.0; num=5 0.0", "root 1.0; num/0=5 0.0", "root=0 1.0; num=5 0.0", "root= 1.0; num=5 0.0",
                    "root 1.0; num= 0.0", "root 1.0; num=x 0.0", "root 1.0; num=05 0.0", "root 1.0; num=-0 0.0",
                    "root 1.0; num=+5 0.0", "root 1.0; num=5_0 0.0", "root 1.0; num=5.0 0.0", "root 1.0; num=0x5 0.0",
                    "root 1.0; num=\u0665 0.0", "root 1.0; num=--5 0.0", "root 1.0; num=- 0.0", "root 1.0; num==5 0.0",
                    "root 1.0; lam 0.0 1.2 1.1", "root 1.0; lam/ 0.0 1.2 1.1", "root 1.0; lam/00 0.0 1.2 1.1",
                    "root 1.0; lam/-1 0.0 1.2 1.1", "root 1.0; lam/0= 0.0 1.2 1.1", "root 1.0; lam/0=0 0.0 1.2 1.1",
                    "root 1.0; lam/0=None 0.0 1.2 1.1", "root 1.0; lam/0/0 0.0 1.2 1.1", "root 1.0; Lam/0 0.0 1.2 1.1",
                    "root 1.0; lam/x 0.0 1.2 1.1", "root 1.0; lam/+0 0.0 1.2 1.1", "root 1.0; lam/-0 0.0 1.2 1.1",
                    "root 1.2; op/0 1.1 1.0 0.0", "root 1.2; op/0= 1.1 1.0 0.0", "root 1.2; op/0=/ 1.1 1.0 0.0",
                    "root 1.2; op/0=+5 1.1 1.0 0.0", "root 1.2; op=+ 1.1 1.0 0.0", "root 1.2; op/0=++ 1.1 1.0 0.0",
                    "root 1.1; op1/0=5 2.0 0.0; num=1 1.0", "root 1.1; op1/0=+ 2.0 0.0; num=1 1.0",
                    "root 1.1; op1/0=++5 2.0 0.0; num=1 1.0", "root 1.1; op1/0=+05 2.0 0.0; num=1 1.0",
                    "root 1.1; op1/0=+-0 2.0 0.0; num=1 1.0", "root 1.1; op1/0 2.0 0.0; num=1 1.0")

    def test_changed_ports(self):
        self.refuse("root 1; num=5 0.0", "root 1.0.0; num=5 0.0", "root 1.; num=5 0.0", "root .0; num=5 0.0",
                    "root 01.0; num=5 0.0", "root 1.00; num=5 0.0", "root 1.-0; num=5 0.0", "root +1.0; num=5 0.0",
                    "root 1,0; num=5 0.0", "root 1.0; num=5 0.0 0.0", "root 1.0 1.0; num=5 0.0", "root 2.0; num=5 0.0",
                    "root 1.1; num=5 0.0", "root 1.0; num=5 1.0", "root 1.0; num=5 0.1", "root -1.0; num=5 0.0",
                    "root 1.0; lam/0 0.0 1.1 1.2", "root 1.0; lam/0 0.0 1.2", "root 1.0; lam/0 0.0 1.2 1.1 1.1",
                    "root 1.0; lam/0 0.0 1.2 1.2", "root 1.1; lam/0 0.0 1.2 1.1")

    def test_one_blank_changed(self):
        for text in self.RIGHT:
            for at, sign in enumerate(text):
                if sign == " ":
                    self.refuse(text[:at] + text[at + 1:], text[:at] + "  " + text[at + 1:],
                                text[:at] + "\n" + text[at + 1:], text[:at] + "\t" + text[at + 1:])
            self.refuse(" " + text, text + " ", text + "\n")

    def test_cut_off_texts(self):
        for text in self.RIGHT:
            for end in range(len(text)):
                self.refuse(text[:end])
                self.refuse(text[end + 1:])

    def test_repeated_parts(self):
        for text in self.RIGHT:
            parts = text.split("; ")
            for at, part in enumerate(parts):
                self.refuse("; ".join([*parts[:at], part, *parts[at:]]), "; ".join(parts[:at] + parts[at + 1:]))

    def test_agents_that_are_numbered_otherwise(self):
        self.refuse("root 1.0; lam/0 0.0 3.0 2.2; op/0=* 3.1 3.2 1.2; fan/0 1.1 2.0 2.1",
                    "lam/0 1.0 2.0 3.2; root 0.0; fan/0 0.1 3.0 3.1; op/0=* 2.1 2.2 0.2",
                    "root 2.2; num=1 2.0; app/3 1.0 3.0 0.0; num=-2 2.1",
                    "root 1.2; app/3 3.0 2.0 0.0; num=-2 1.1; num=1 1.0")

    def test_nets_with_agents_that_are_not_reached(self):
        self.refuse("root 1.0; num=5 0.0; lam/0 3.0 2.2 2.1; num=1 2.0", "root 1.0; num=5 0.0; num=1 3.0; num=2 2.0")
