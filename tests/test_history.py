"""Histories: point 56."""

import random
import unittest

from sharenet.building import net_of
from sharenet.canonical import canonical_text
from sharenet.errors import InvalidStep
from sharenet.history import History
from sharenet.reader import read_term
from sharenet.rules import interact, rule_of
from sharenet.running import RULES, run_net
from tests.nets import NetMaker, plain, problems, wired
from tests.sharing import doubled, made


def history_for(text):
    return History(net_of(read_term(text)))


def state(net):
    """Everything that can be seen of a net, with the next names, which show in a copy."""
    found = (plain(net), net.names(), net.pairs(), canonical_text(net))
    copy = net.copied()
    for pair in copy.pairs():
        if rule_of(copy, pair) == "operate":
            interact(copy, pair)
            return (*found, copy.names())
    return found


class Histories(unittest.TestCase):
    def test_forward_and_back(self):
        history = history_for("1 + 2")
        self.assertEqual(len(history), 0)
        self.assertIs(history.back(), False)
        texts = [canonical_text(history.present_net())]
        for many in (1, 2):
            self.assertEqual(history.forward(0), "operate")
            self.assertEqual(len(history), many)
            texts.append(canonical_text(history.present_net()))
        self.assertEqual(texts[-1], "root 1.0; num=3 0.0")
        self.assertIsNone(history.forward(0))
        self.assertEqual(len(history), 2)
        for many in (1, 0):
            self.assertIs(history.back(), True)
            self.assertEqual(len(history), many)
            self.assertEqual(canonical_text(history.present_net()), texts[many])
        self.assertIs(history.back(), False)
        self.assertEqual(canonical_text(history.present_net()), texts[0])
        self.assertEqual(len(history), 0)

    def test_finished_nets(self):
        history = history_for("\\x:Int. x")
        for choice in (0, 5, -7):
            self.assertIsNone(history.forward(choice))
        self.assertIs(history.back(), False)
        self.assertEqual(len(history), 0)

    def test_which_pair_a_choice_takes(self):
        text = "root a; op/0=+ h b a; op/0=- e c b; op/0=* f d c; num=4 d; num=1 e; num=2 f; num=3 h"
        for choice, pair in ((0, (1, 7)), (1, (2, 5)), (2, (3, 6)), (3, (1, 7)), (-1, (3, 6)), (-4, (3, 6)),
                             (10 ** 20, (2, 5))):
            history, net = History(wired(text)), wired(text)
            self.assertEqual(history.forward(choice), interact(net, pair))
            self.assertEqual(state(history.present_net()), state(net))

    def test_the_same_names_after_going_back(self):
        text = "root a; pair/0 a b c; fan/0 p b c; op/2=- p d e; num=1 d; op1/0=+3 q e; num=2 q"
        history = History(wired(text))
        before = state(history.present_net())
        self.assertEqual(history.present_net().pairs(), [(2, 3), (5, 6)])
        history.forward(0)
        self.assertEqual(history.present_net().names(), [0, 1, 4, 5, 6, 7, 8, 9, 10])
        after = state(history.present_net())
        history.back()
        self.assertEqual(state(history.present_net()), before)
        history.forward(0)
        self.assertEqual(state(history.present_net()), after)
        history.back()
        # Another interaction gets the names that the first one had.
        history.forward(1)
        self.assertEqual(history.present_net().names(), [0, 1, 2, 3, 4, 7])
        history.forward(0)
        self.assertEqual(history.present_net().names(), [0, 1, 4, 7, 8, 9, 10, 11])
        history.back()
        history.back()
        self.assertEqual(state(history.present_net()), before)

    def test_new_names_continue_those_of_the_given_net(self):
        net = net_of(read_term("let f = !(\\x:Int. x) in !(f (f (1 + 2)))"))
        interact(net, net.pairs()[0])
        interact(net, net.pairs()[0])
        history, other = History(net), net.copied()
        interact(other, other.pairs()[-1])
        history.forward(-1)
        self.assertEqual(state(history.present_net()), state(other))
        history.back()
        self.assertEqual(state(history.present_net()), state(net))
        self.assertIs(history.back(), False)

    def test_a_pair_without_a_rule(self):
        history = History(wired("root a; app/1 p b a; lam/0 p c c; op1/0=+1 q b; num=2 q"))
        before = state(history.present_net())
        for choice in (0, 2, -2):
            self.assertRaises(InvalidStep, history.forward, choice)
            self.assertEqual(state(history.present_net()), before)
            self.assertEqual(len(history), 0)
        self.assertEqual(history.forward(1), "operate")
        after = state(history.present_net())
        self.assertRaises(InvalidStep, history.forward, 1)
        self.assertEqual(len(history), 1)
        self.assertEqual(state(history.present_net()), after)
        self.assertIs(history.back(), True)
        self.assertEqual(state(history.present_net()), before)
        self.assertIs(history.back(), False)

    def test_agents_that_are_cut_off_come_back(self):
        history = History(wired("root a; split/0 p a b; pair/0 p c d; num=1 c; lam/0 d e f; fan/0 b e f"))
        before = state(history.present_net())
        self.assertEqual(history.forward(0), "unpair")
        self.assertEqual(history.present_net().names(), [0, 3, 4, 5])
        history.back()
        self.assertEqual(state(history.present_net()), before)


class AgainstCopies(unittest.TestCase):
    def wander(self, net, choices, many):
        """Go forward and back at random beside a list of copies of the nets."""
        history, past, found = History(net), [net.copied()], set()
        for _ in range(many):
            if choices.random() < 0.4:
                self.assertIs(history.back(), len(past) > 1)
                past = past[:-1] or past
            else:
                choice = choices.randrange(-50, 50)
                pairs = past[-1].pairs()
                pair = pairs[choice % len(pairs)] if pairs else None
                if pair is None:
                    self.assertIsNone(history.forward(choice))
                elif rule_of(past[-1], pair) is None:
                    self.assertRaises(InvalidStep, history.forward, choice)
                else:
                    past.append(past[-1].copied())
                    rule = interact(past[-1], pair)
                    found.add(rule)
                    self.assertEqual(history.forward(choice), rule)
            self.assertEqual(len(history), len(past) - 1)
            self.assertEqual(state(history.present_net()), state(past[-1]))
            self.assertEqual(problems(history.present_net()), [])
        return found

    def test_terms(self):
        choices, found = random.Random(170), set()
        for term in made(20):
            found |= self.wander(net_of(term), choices, 60)
        self.assertEqual(found, set(RULES))

    def test_made_nets(self):
        choices, maker, found = random.Random(171), NetMaker(171), set()
        for many in list(range(3, 13)) * 20:
            found |= self.wander(maker.net(many), choices, 12)
        self.assertEqual(found, set(RULES))

    def test_to_the_end_and_back(self):
        choices = random.Random(172)
        for term in made(15) + [doubled(4)]:
            net = net_of(term)
            history, end = History(net), net.copied()
            steps = sum(run_net(end))
            for _ in range(2):
                while history.forward(choices.randrange(100)) is not None:
                    pass
                self.assertEqual(len(history), steps)
                self.assertEqual(canonical_text(history.present_net()), canonical_text(end))
                while history.back():
                    pass
                self.assertEqual(len(history), 0)
                self.assertEqual(state(history.present_net()), state(net))


class Copies(unittest.TestCase):
    def test_the_given_net_and_the_returned_nets_are_copies(self):
        net = net_of(doubled(2))
        before = state(net)
        history = History(net)
        history.forward(0)
        self.assertEqual(state(net), before)
        run_net(net)
        history.back()
        self.assertEqual(state(history.present_net()), before)
        found = history.present_net()
        run_net(found)
        self.assertEqual(state(history.present_net()), before)
        kept = history.present_net()
        history.forward(0)
        self.assertEqual(state(kept), before)
        self.assertNotEqual(state(history.present_net()), before)
        after = history.present_net()
        run_net(history.present_net())
        history.back()
        history.forward(0)
        self.assertEqual(state(history.present_net()), state(after))

    def test_two_histories_of_one_net(self):
        net = net_of(doubled(2))
        one, other = History(net), History(net)
        one.forward(0)
        self.assertEqual((len(one), len(other)), (1, 0))
        self.assertEqual(state(other.present_net()), state(net))
