"""Suspending, restoring and moving machines with cells: points 57 to 59."""

import random
import unittest

from sharenet.building import net_of
from sharenet.canonical import same_net
from sharenet.cells import CellMachine
from sharenet.errors import InvalidText, TooLarge
from sharenet.reader import read_term
from sharenet.running import RULES, run_net
from sharenet.suspending import dump, moved, restored
from tests.celling import SlowMachine, is_dump, state
from tests.nets import NetMaker, wired
from tests.sharing import doubled, made

EVERY_KIND = ("root a; lam/1 a b c; app/2 d b e; fan/3 c d f; split/4 g e f; pair/5 h g i; op/6=* j h i; op1/7=-8 k j; "
              "num=-9 k")


def machine_for(text, capacity):
    return CellMachine(wired(text) if text.startswith("root") else net_of(read_term(text)), capacity=capacity)


def without_peak(machine):
    return state(machine)[:-1]


class Dumps(unittest.TestCase):
    def expect(self, machine, lines):
        found = dump(machine)
        self.assertEqual(found, "".join(f"{line}\n" for line in lines))
        self.assertTrue(is_dump(found))
        again = restored(found)
        self.assertEqual(without_peak(again), without_peak(machine))
        self.assertEqual(again.peak, len(machine.numbers()) - len(machine.free_cells()))
        self.assertEqual(dump(again), found)

    def test_small_machines(self):
        self.expect(machine_for("5", 2), ["cells 2", "root 1.0", "num 5 0.0", "first 0"])
        self.expect(machine_for("5", 4), ["cells 4", "root 1.0", "num 5 0.0", "free 3", "free 0", "first 2"])
        self.expect(machine_for("\\x:Int. x", 3), ["cells 3", "root 1.0", "lam 0 0.0 1.2 1.1", "free 0", "first 2"])
        self.expect(machine_for("1 - 2", 4), ["cells 4", "root 1.2", "op 0 - 2.0 3.0 0.0", "num 1 1.0", "num 2 1.1", "first 0"])
        self.expect(machine_for("let x = !(\\y:Int. y) in !(x, x)", 8),
                    ["cells 8", "root 1.0", "pair 1 0.0 2.1 2.2", "fan 0 3.0 1.1 1.2", "lam 1 2.0 3.2 3.1", "free 5", "free 6",
                     "free 7", "free 0", "first 4"])

    def test_a_free_list_that_is_not_ascending_and_negative_numbers(self):
        machine = machine_for("7 - 9", 5)
        machine.interact((1, 2))
        self.expect(machine, ["cells 5", "root 1.1", "op1 0 - 7 3.0 0.0", "free 4", "num 9 1.0", "free 0", "first 2"])
        machine.interact((1, 3))
        self.expect(machine, ["cells 5", "root 1.0", "num -2 0.0", "free 4", "free 2", "free 0", "first 3"])

    def test_every_kind_of_agent(self):
        for capacity in (9, 12):
            machine = machine_for(EVERY_KIND, capacity)
            lines = dump(machine).split("\n")
            self.assertEqual(sorted(line.split(" ")[0] for line in lines[1:10]),
                             ["app", "fan", "lam", "num", "op", "op1", "pair", "root", "split"])
            self.assertEqual(dump(machine), SlowMachine(wired(EVERY_KIND), capacity).dump())
            self.expect(machine, lines[:-1])

    def test_numbers_of_many_digits(self):
        for number in (10 ** 3999, 10 ** 4000 - 1, -10 ** 3999, -(10 ** 4000) + 1):
            for text in (f"root a; num={number} a", f"root a; op1/2=*{number} a b; num=0 b"):
                machine = machine_for(text, 4)
                again = restored(dump(machine))
                self.assertEqual(again.numbers(), machine.numbers())
                self.assertIn(number, again.numbers())
                self.assertEqual(dump(again), dump(machine))
                self.assertIn(str(number), dump(machine))
        self.assertEqual(dump(CellMachine(net_of(("num", 10 ** 4500)), capacity=2)),
                         "cells 2\nroot 1.0\nnum 1" + "0" * 4500 + " 0.0\nfirst 0\n")

    def test_against_words(self):
        choices, found = random.Random(180), set()
        for term in made(25):
            net = net_of(term)
            machine, slow = CellMachine(net, capacity=len(net) + 100), SlowMachine(net, len(net) + 100)
            for _ in range(25):
                self.assertEqual(dump(machine), slow.dump())
                self.assertTrue(is_dump(dump(machine)))
                if not machine.pairs():
                    break
                pair = choices.choice(machine.pairs())
                found.add(machine.interact(pair))
                slow.interact(pair)
        self.assertEqual(found, set(RULES))

    def test_a_dump_changes_nothing(self):
        machine = machine_for("let f = !(\\x:Int. x) in !(f (f 1))", 20)
        before = state(machine)
        dump(machine)
        moved(machine, capacity=40)
        self.assertEqual(state(machine), before)


class Restoring(unittest.TestCase):
    def test_the_peak_is_the_number_of_the_cells_that_are_not_free(self):
        machine = machine_for("let f = !(\\x:Int. x) in !(f (f 1))", 20)
        machine.run()
        self.assertEqual(machine.peak, 8)
        again = restored(dump(machine))
        self.assertEqual(again.peak, 2)
        self.assertEqual(without_peak(again), without_peak(machine))

    def test_a_restored_machine_goes_on_as_the_other_one(self):
        choices = random.Random(181)
        for term in made(20):
            net = net_of(term)
            machine = CellMachine(net, capacity=len(net) + 400)
            for _ in range(choices.randrange(12)):
                if machine.pairs():
                    machine.interact(choices.choice(machine.pairs()))
            again = restored(dump(machine))
            while machine.pairs():
                pair = choices.choice(machine.pairs())
                self.assertEqual(again.interact(pair), machine.interact(pair))
                self.assertEqual(without_peak(again), without_peak(machine))
            self.assertLessEqual(again.peak, machine.peak)
            self.assertTrue(same_net(again.to_net(), machine.to_net()))

    def test_two_machines_of_one_dump(self):
        text = dump(machine_for("1 + 2", 4))
        one, other = restored(text), restored(text)
        one.run()
        self.assertEqual(dump(other), text)
        self.assertNotEqual(dump(one), text)

    def test_machines_of_any_net(self):
        maker = NetMaker(182)
        for many in list(range(1, 12)) * 15:
            machine = CellMachine(maker.net(many), capacity=many + 4)
            again = restored(dump(machine))
            self.assertEqual(state(again), state(machine))


class WrongTexts(unittest.TestCase):
    GOOD = ("cells 7\nroot 1.2\nop 0 + 2.1 3.0 0.0\nop1 1 - -7 4.0 1.0\nnum 12 1.1\nnum 8 2.0\nfree 6\nfree 0\nfirst 5\n")

    def refuse(self, *texts):
        for text in texts:
            with self.subTest(text=text):
                self.assertFalse(is_dump(text))
                with self.assertRaises(InvalidText) as caught:
                    restored(text)
                self.assertIs(type(caught.exception), InvalidText)

    def check(self, text):
        """A text is restored if and only if it is a dump."""
        if is_dump(text):
            self.assertEqual(dump(restored(text)), text)
            return True
        self.refuse(text)
        return False

    def swap(self, *changes):
        """Good text with some changes, which must all apply."""
        text = self.GOOD
        for old, new in changes:
            self.assertIn(old, text)
            text = text.replace(old, new, 1)
        return text

    def test_the_good_text(self):
        self.assertTrue(self.check(self.GOOD))
        self.assertEqual(restored(self.GOOD).free_cells(), [5, 6])
        self.assertEqual(restored(self.GOOD).pairs(), [(2, 4)])

    def test_other_dumps(self):
        for change in (("num 12", "num -12"), ("num 12", "num 0"), ("op 0 +", "op 99 *"), ("op1 1 - -7", "op1 0 * 7")):
            self.assertTrue(self.check(self.swap(change)))
        self.assertTrue(self.check(self.swap(("free 6\nfree 0\nfirst 5", "free 0\nfree 5\nfirst 6"))))
        self.assertEqual(restored(self.swap(("num 12", "num " + "9" * 5000))).numbers()[3], 10 ** 5000 - 1)

    def test_the_first_line(self):
        for line in ("cells 6", "cells 8", "cells", "cells ", "cells 07", "cells +7", "cells -7", "cells 7 ", " cells 7",
                     "cells  7", "cell 7", "Cells 7", "7", "", "cells 7 7", "cells seven", "cells 99999999999999999999"):
            self.refuse(self.swap(("cells 7", line)))

    def test_the_last_line(self):
        for line in ("first 0", "first 6", "first 7", "first 1", "first -5", "first 05", "first +5", "first", "first ", "5",
                     "First 5", "first 5 ", " first 5", "first  5", "first 5 5", "last 5", ""):
            self.refuse(self.swap(("first 5", line)))
        self.refuse(self.GOOD[:-1], self.GOOD + "\n", self.GOOD + " ", self.GOOD + "first 5\n", "\n" + self.GOOD)

    def test_free_lists(self):
        self.refuse(self.swap(("free 6", "free 0")), self.swap(("free 0", "free 5")), self.swap(("free 0", "free 6")),
                    self.swap(("free 6", "free 5")), self.swap(("free 0", "free 4")), self.swap(("free 0", "free 7")),
                    self.swap(("free 0", "free -1")), self.swap(("free 0", "free 00")), self.swap(("free 0", "free")),
                    self.swap(("free 0", "free 0 0")), self.swap(("free 0", "free ")), self.swap(("free 6", "free +6")),
                    self.swap(("free 6\nfree 0\nfirst 5", "free 0\nfree 5\nfirst 5")),
                    self.swap(("free 6\nfree 0\nfirst 5", "free 0\nfree 0\nfirst 5")),
                    self.swap(("free 6\nfree 0\nfirst 5", "free 0\nfree 0\nfirst 0")),
                    self.swap(("free 6\nfree 0\nfirst 5", "free 6\nfree 5\nfirst 0")))

    def test_peers_that_are_not_mutual(self):
        self.refuse(self.swap(("num 12 1.1", "num 12 1.0")), self.swap(("num 12 1.1", "num 12 1.2")),
                    self.swap(("num 12 1.1", "num 12 3.0")), self.swap(("num 12 1.1", "num 12 5.0")),
                    self.swap(("num 12 1.1", "num 12 7.0")), self.swap(("num 12 1.1", "num 12 -1.1")),
                    self.swap(("num 12 1.1", "num 12 1.3")), self.swap(("num 12 1.1", "num 12 0.4")),
                    self.swap(("num 12 1.1", "num 12 1.-1")), self.swap(("root 1.2", "root 0.0")),
                    self.swap(("2.1 3.0 0.0", "3.0 2.1 0.0")), self.swap(("num 12 1.1", "num 12 0.0"), ("root 1.2", "root 3.0")),
                    self.swap(("root 1.2", "root 0.5")))

    def test_words(self):
        for old, news in (("op 0 +", ("op 0 /", "op 0 ++", "op 0 -+", "op + 0", "op 0", "op -1 +", "op 00 +", "op +", "op 0 + +",
                                      "Op 0 +", "oq 0 +", "op a +", "op 0 +0", "op  0 +", "op 0  +", " op 0 +", "op1 0 + 5")),
                          ("op1 1 - -7", ("op1 1 -", "op1 1 -7", "op1 1 -7 -", "op1 1 - --7", "op1 1 - -07", "op1 1 - +7",
                                          "op1 1 - -0", "op1 -1 - 7", "op1 1 - 7 7", "op 1 -", "op1 - 7", "op1 1 x 7", "op1 1  7")),
                          ("num 12", ("num", "num 0 12", "num 012", "num +12", "num 1.2", "num --12", "num -0", "num 12.0", "nun 12",
                                      "num 1 2", "lam 12", "free", "num \u0661", "num 12 ", "num\t12")),
                          ("root 1.2", ("root 1 2", "root 1,2", "root 1", "root 1.", "root .2", "root 01.2", "root 1.02", "root +1.2",
                                        "root 1.2.3", "root 0 1.2", "root", "root 1.2 1.2", "num 0 1.2", "root 1..2", "root 1.+2"))):
            for new in news:
                self.refuse(self.swap((old, new)))

    def test_lines(self):
        self.refuse("", "\n", "\n\n\n\n", "cells 0\nfirst 0\n", "cells 1\nroot 0.0\nfirst 0\n", "cells 2\nfirst 0\n",
                    "cells 1\nfree 0\nfirst 0\n", "cells 2\nfree 1\nfree 0\nfirst 0\n", "cells 2\nroot 1.0\nroot 0.0\nfirst 0\n",
                    self.swap(("\nnum 8 2.0", "\r\nnum 8 2.0")), self.swap(("num 8 2.0\n", "num 8 2.0\n\n")),
                    self.swap(("num 8 2.0\n", "")), self.swap(("num 8 2.0\n", "num 8 2.0\nnum 8 2.0\n")))

    def test_nets(self):
        # The root elsewhere, two roots, and none.
        self.refuse("cells 2\nnum 5 1.0\nroot 0.0\nfirst 0\n", "cells 3\nfree 0\nroot 2.0\nnum 5 1.0\nfirst 0\n",
                    "cells 4\nroot 1.0\nnum 5 0.0\nroot 3.0\nnum 5 2.0\nfirst 0\n", "cells 2\nnum 4 1.0\nnum 5 0.0\nfirst 0\n",
                    "cells 2\nroot 1.0\nroot 0.0\nfirst 0\n")
        # Agents that the root does not reach.
        self.refuse("cells 4\nroot 1.0\nnum 5 0.0\nnum 6 3.0\nnum 7 2.0\nfirst 0\n",
                    "cells 4\nroot 1.0\nnum 5 0.0\nlam 0 3.0 2.2 2.1\nlam 0 2.0 3.2 3.1\nfirst 0\n")
        self.refuse("cells 3\nroot 1.0\nnum 5 0.0\nlam 0 2.0 2.2 2.1\nfirst 0\n")
        self.assertTrue(self.check("cells 3\nroot 1.0\nlam 0 0.0 1.2 1.1\nfree 0\nfirst 2\n"))

    def test_every_small_change(self):
        texts = [self.GOOD, dump(machine_for(EVERY_KIND, 11)), dump(machine_for("let x = !(\\y:Int. y) in !(x, x)", 7))]
        good = 0
        for text in texts:
            lines = text.split("\n")[:-1]
            for at, line in enumerate(lines):
                words = line.split(" ")
                changed = [lines[:at] + lines[at + 1:], lines[:at] + [line] + lines[at:]]
                for place, word in enumerate(words):
                    for new in ([], [word, word], ["0"], ["1"], ["-1"], ["0" + word], ["+" + word], ["-" + word], [""], ["x"],
                                ["2.1"], ["free"], ["root"], [word + " "], [" " + word], [word.upper()], [word + "0"]):
                        changed.append(lines[:at] + [" ".join(words[:place] + new + words[place + 1:])] + lines[at + 1:])
                for other in range(at):
                    swapped = list(lines)
                    swapped[at], swapped[other] = swapped[other], swapped[at]
                    changed.append(swapped)
                for some in changed:
                    good += self.check("".join(f"{each}\n" for each in some))
        self.assertGreater(good, 20)

    def test_drawn_changes(self):
        choices = random.Random(183)
        good = 0
        for term in made(10):
            machine = CellMachine(net_of(term), capacity=len(net_of(term)) + 40)
            for _ in range(5):
                if machine.pairs():
                    machine.interact(machine.pairs()[0])
            text = dump(machine)
            for _ in range(150):
                at = choices.randrange(len(text))
                new = choices.choice(["", text[at] * 2, choices.choice("0123456789.- \nfr+*")])
                good += self.check(text[:at] + new + text[at + 1:])
        self.assertGreater(good, 5)


class Moving(unittest.TestCase):
    def test_the_net_is_loaded_anew(self):
        machine = machine_for("(\\x:Int. x + 1) 2", 20)
        machine.interact((1, 2))
        new = moved(machine, capacity=5)
        self.assertEqual(dump(new), "cells 5\nroot 1.2\nop 0 + 2.0 3.0 0.0\nnum 2 1.0\nnum 1 1.1\nfree 0\nfirst 4\n")
        self.assertEqual(new.peak, 4)
        self.assertTrue(same_net(new.to_net(), machine.to_net()))
        self.assertIsInstance(new, CellMachine)
        new.run()
        self.assertEqual(machine.pairs(), [(3, 4)])

    def test_capacities(self):
        for text, many in (("5", 2), ("1 + 2", 4), ("let f = !(\\x:Int. x) in !(f (f 1))", 6)):
            machine = machine_for(text, 30)
            for capacity in range(-1, many):
                self.assertRaises(TooLarge, moved, machine, capacity=capacity)
            for capacity in (many, many + 1, 100):
                new = moved(machine, capacity=capacity)
                self.assertEqual(len(new.numbers()), capacity)
                self.assertEqual(state(new), state(CellMachine(machine.to_net(), capacity=capacity)))

    def test_names_are_needed(self):
        with self.assertRaises(TypeError):
            moved(machine_for("5", 2), 5)
        with self.assertRaises(TypeError):
            moved(machine_for("5", 2))

    def test_the_end_and_the_counts(self):
        choices = random.Random(184)
        for term in made(30) + [doubled(4)]:
            net = net_of(term)
            end = net.copied()
            counts = run_net(end)
            machine = CellMachine(net, capacity=len(net) + 500)
            done = []
            while machine.pairs():
                done.append(machine.interact(choices.choice(machine.pairs())))
                deed = choices.random()
                if deed < 0.3:
                    machine = restored(dump(machine))
                elif deed < 0.6:
                    machine = moved(machine, capacity=len(machine.to_net()) + 200 + choices.randrange(40))
            self.assertEqual(tuple(done.count(rule) for rule in RULES), counts)
            self.assertTrue(same_net(machine.to_net(), end))
