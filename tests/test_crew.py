"""Workers: points 41 to 43."""

import random
import unittest

from sharenet.building import net_of
from sharenet.canonical import canonical_text, same_net
from sharenet.crew import Crew
from sharenet.errors import InvalidStep, TooLong
from sharenet.reader import read_term
from sharenet.rules import interact, rule_of
from sharenet.running import RULES, run_net
from tests.nets import NetMaker, plain, problems, wired
from tests.sharing import doubled, made

LAST = [-1] * 3000
# The active pairs are (1, 7), (2, 8), (3, 9), (4, 10) and (5, 11), and each operation needs a second operand.
SUMS = ("root a; op/0=+ p1 b1 a; op/0=+ p2 b2 b1; op/0=+ p3 b3 b2; op/0=+ p4 b4 b3; op/0=+ p5 b5 b4; num=6 b5; "
        "num=1 p1; num=2 p2; num=3 p3; num=4 p4; num=5 p5")
PAIRS = [(1, 7), (2, 8), (3, 9), (4, 10), (5, 11)]


class SlowCrew:
    """A crew by the words of points 41 and 42."""

    def __init__(self, net, workers):
        self.net = net.copied()
        self.lists = [net.pairs()[worker::workers] for worker in range(workers)]
        self.done = [0] * workers

    def take(self, worker):
        if self.lists[worker]:
            return self.lists[worker].pop()
        others = [other for other in range(len(self.lists)) if other != worker and self.lists[other]]
        if not others:
            return None
        most = max(len(self.lists[other]) for other in others)
        owner = min(other for other in others if len(self.lists[other]) == most)
        return self.lists[owner].pop(0)

    def let_interact(self, worker, pair):
        before = self.net.pairs()
        rule = interact(self.net, pair)
        self.lists[worker] += sorted(pair for pair in self.net.pairs() if pair not in before)
        self.done[worker] += 1
        return rule

    def turn(self, worker):
        pair = self.take(worker)
        return None if pair is None else self.let_interact(worker, pair)

    def tick(self):
        taken = [(worker, self.take(worker)) for worker in range(len(self.lists))]
        taken = [(worker, pair) for worker, pair in taken if pair is not None]
        for worker, pair in taken:
            self.let_interact(worker, pair)
        return len(taken)


def state(crew):
    if isinstance(crew, SlowCrew):
        return (crew.lists, crew.done, plain(crew.net))
    return (crew.queues(), crew.shares(), plain(crew.present_net()))


def crew_for(text, workers):
    return Crew(net_of(read_term(text)), workers=workers)


class Dealing(unittest.TestCase):
    def test_the_pairs_are_dealt_out_in_turn(self):
        net = wired(SUMS)
        self.assertEqual(net.pairs(), PAIRS)
        for workers, lists in ((1, [PAIRS]), (2, [PAIRS[::2], PAIRS[1::2]]), (3, [PAIRS[::3], PAIRS[1::3], PAIRS[2::3]]),
                               (5, [[pair] for pair in PAIRS]), (7, [[pair] for pair in PAIRS] + [[], []])):
            crew = Crew(net, workers=workers)
            self.assertEqual(crew.queues(), lists)
            self.assertEqual(crew.shares(), [0] * workers)
            self.assertEqual(plain(crew.present_net()), plain(net))

    def test_nets_without_pairs(self):
        crew = crew_for("\\x:Int. x", 3)
        self.assertEqual(crew.queues(), [[], [], []])
        self.assertIsNone(crew.turn(0))
        self.assertIsNone(crew.turn(2))
        self.assertEqual(crew.tick(), 0)
        self.assertEqual(crew.run(), (0, 0, 0, 0, 0))
        self.assertEqual(crew.run(turns=[1, 2], most=0), (0, 0, 0, 0, 0))
        self.assertEqual(crew.shares(), [0, 0, 0])


class Turns(unittest.TestCase):
    def test_a_worker_takes_its_last_pair(self):
        crew = Crew(wired(SUMS), workers=2)
        self.assertEqual(crew.turn(0), "operate")
        self.assertEqual(crew.shares(), [1, 0])
        # The operation of the pair (5, 11) meets its second operand, the agent 6, as the agent 12.
        self.assertEqual(crew.queues(), [[(1, 7), (3, 9), (6, 12)], [(2, 8), (4, 10)]])
        self.assertEqual(crew.turn(1), "operate")
        self.assertEqual(crew.queues(), [[(1, 7), (3, 9), (6, 12)], [(2, 8)]])
        self.assertEqual(crew.turn(0), "operate")
        # The number 11 is the agent 14, and the second operand of the agent 13.
        self.assertEqual(crew.queues(), [[(1, 7), (3, 9), (13, 14)], [(2, 8)]])
        self.assertEqual(crew.shares(), [2, 1])

    def test_a_worker_steals_the_first_pair_of_the_longest_list(self):
        crew = Crew(wired(SUMS), workers=2)
        for _ in range(2):
            self.assertEqual(crew.turn(1), "operate")
        self.assertEqual(crew.queues(), [[(1, 7), (3, 9), (5, 11)], []])
        self.assertEqual(crew.turn(1), "operate")
        self.assertEqual(crew.queues(), [[(3, 9), (5, 11)], []])
        self.assertEqual(crew.shares(), [0, 3])

    def test_of_several_longest_lists_that_of_the_smallest_worker(self):
        net = wired("root a; op/0=+ p1 b1 a; op/0=+ p2 b2 b1; op/0=+ p3 b3 b2; num=1 b3; num=2 p1; num=3 p2; num=4 p3")
        crew = Crew(net, workers=4)
        self.assertEqual(crew.queues(), [[(1, 5)], [(2, 6)], [(3, 7)], []])
        self.assertEqual(crew.turn(3), "operate")
        self.assertEqual(crew.queues(), [[], [(2, 6)], [(3, 7)], []])
        self.assertEqual(crew.turn(0), "operate")
        self.assertEqual(crew.queues(), [[], [], [(3, 7)], []])
        crew = Crew(wired(SUMS), workers=3)
        self.assertEqual(crew.queues(), [[(1, 7), (4, 10)], [(2, 8), (5, 11)], [(3, 9)]])
        crew.turn(2)
        crew.turn(2)
        self.assertEqual(crew.queues(), [[(4, 10)], [(2, 8), (5, 11)], []])
        crew.turn(2)
        self.assertEqual(crew.queues(), [[(4, 10)], [(5, 11)], []])
        crew.turn(2)
        self.assertEqual(crew.queues(), [[], [(5, 11)], []])

    def test_a_worker_never_steals_while_its_own_list_has_a_pair(self):
        crew = Crew(wired(SUMS), workers=4)
        self.assertEqual(crew.queues(), [[(1, 7), (5, 11)], [(2, 8)], [(3, 9)], [(4, 10)]])
        crew.turn(3)
        self.assertEqual(crew.queues(), [[(1, 7), (5, 11)], [(2, 8)], [(3, 9)], []])

    def test_a_worker_rests(self):
        crew = crew_for("1 + 2", 3)
        self.assertEqual([crew.turn(2), crew.turn(0), crew.turn(1)], ["operate", "operate", None])
        self.assertEqual(crew.shares(), [1, 0, 1])
        self.assertIsNone(crew.turn(0))
        self.assertEqual(canonical_text(crew.present_net()), "root 1.0; num=3 0.0")

    def test_new_pairs_are_added_ascending(self):
        text = "root a; app/0 b c a; fan/0 p b d; lam/1 p e f; num=1 c; op/0=+ e f d"
        crew = Crew(wired(text), workers=2)
        self.assertEqual(crew.turn(1), "duplicate")
        self.assertEqual(crew.queues(), [[], [(1, 6), (5, 8)]])

    def test_every_rule(self):
        found = set()
        for term in made(20):
            crew = Crew(net_of(term), workers=2)
            while any(crew.queues()):
                found.add(crew.turn(0))
        self.assertEqual(found, set(RULES))

    def test_a_pair_without_a_rule_changes_nothing(self):
        text = "root a; app/1 p b a; lam/0 p c c; op1/0=+1 q b; num=2 q"
        crew = Crew(wired(text), workers=2)
        self.assertEqual(crew.queues(), [[(1, 2)], [(3, 4)]])
        before = state(crew)
        self.assertRaises(InvalidStep, crew.turn, 0)
        self.assertEqual(state(crew), before)
        self.assertRaises(InvalidStep, crew.run)
        self.assertEqual(state(crew), before)
        self.assertEqual(crew.turn(1), "operate")
        before = state(crew)
        # Worker 1 would have to steal the pair without a rule.
        self.assertRaises(InvalidStep, crew.turn, 1)
        self.assertRaises(InvalidStep, crew.tick)
        crew = Crew(wired(text), workers=1)
        self.assertEqual(crew.turn(0), "operate")
        self.assertRaises(InvalidStep, crew.turn, 0)


class Ticks(unittest.TestCase):
    def test_all_workers_take_before_a_pair_interacts(self):
        crew = Crew(wired(SUMS), workers=2)
        self.assertEqual(crew.tick(), 2)
        self.assertEqual(crew.shares(), [1, 1])
        # Worker 0 took (5, 11) and made (6, 12); worker 1 took (4, 10), which made nothing new.
        self.assertEqual(crew.queues(), [[(1, 7), (3, 9), (6, 12)], [(2, 8)]])

    def test_more_workers_than_pairs(self):
        crew = crew_for("(1 + 2, 3 * 4)", 5)
        self.assertEqual([len(pairs) for pairs in crew.queues()], [1, 1, 0, 0, 0])
        self.assertEqual([crew.tick(), crew.tick(), crew.tick()], [2, 2, 0])
        self.assertEqual(crew.shares(), [2, 2, 0, 0, 0])
        self.assertEqual(canonical_text(crew.present_net()), "root 1.0; pair/0 0.0 2.0 3.0; num=3 1.1; num=12 1.2")

    def test_workers_steal_what_is_left_after_those_before_them(self):
        crew = Crew(wired(SUMS), workers=3)
        for _ in range(2):
            crew.turn(2)
        self.assertEqual(crew.queues(), [[(4, 10)], [(2, 8), (5, 11)], []])
        # Worker 0 takes (4, 10), worker 1 takes (5, 11), and worker 2 steals (2, 8).
        self.assertEqual(crew.tick(), 3)
        self.assertEqual(crew.shares(), [1, 1, 3])
        self.assertEqual(crew.queues(), [[], [(6, 15)], []])

    def test_one_worker(self):
        crew = Crew(wired(SUMS), workers=1)
        many = 0
        while crew.tick() == 1:
            many += 1
        self.assertEqual(many, 10)
        self.assertEqual(crew.shares(), [10])
        self.assertEqual(canonical_text(crew.present_net()), "root 1.0; num=21 0.0")


class AgainstWords(unittest.TestCase):
    def test_drawn_turns_and_ticks(self):
        choices = random.Random(130)
        for term in made(25):
            net = net_of(term)
            for workers in (1, 2, 3, 6):
                crew, slow = Crew(net, workers=workers), SlowCrew(net, workers)
                self.assertEqual(state(crew), state(slow))
                while any(slow.lists):
                    if choices.random() < 0.3:
                        self.assertEqual(crew.tick(), slow.tick())
                    else:
                        worker = choices.randrange(workers)
                        self.assertEqual(crew.turn(worker), slow.turn(worker))
                    self.assertEqual(state(crew), state(slow))
                    self.assertEqual(sorted(sum(crew.queues(), [])), crew.present_net().pairs())
                self.assertEqual(crew.tick(), 0)

    def test_made_nets(self):
        maker, choices = NetMaker(131), random.Random(131)
        tried = 0
        for many in list(range(4, 14)) * 25:
            net = maker.net(many)
            if any(rule_of(net, pair) is None for pair in net.pairs()):
                continue
            crew, slow = Crew(net, workers=3), SlowCrew(net, 3)
            for _ in range(12):
                worker = choices.randrange(3)
                saved = state(crew)
                try:
                    wanted = slow.turn(worker)
                except InvalidStep:
                    self.assertRaises(InvalidStep, crew.turn, worker)
                    self.assertEqual(state(crew), saved)
                    break
                tried += 1
                self.assertEqual(crew.turn(worker), wanted)
                self.assertEqual(state(crew), state(slow))
        self.assertGreater(tried, 100)


class Running(unittest.TestCase):
    def test_the_same_end_and_counts_as_the_net(self):
        choices = random.Random(132)
        for term in made(30):
            net = net_of(term)
            end = net.copied()
            counts = run_net(end)
            drawn = [choices.randrange(-50, 50) for _ in range(sum(counts))]
            for workers in (1, 2, 5):
                for turns in ((), drawn, drawn[:len(drawn) // 2], LAST, tuple(drawn) + (7, 7, 7)):
                    crew = Crew(net, workers=workers)
                    found = crew.run(turns=turns)
                    self.assertEqual(found, counts)
                    self.assertIsInstance(found, tuple)
                    self.assertTrue(same_net(crew.present_net(), end))
                    self.assertEqual(crew.queues(), [[]] * workers)
                    self.assertEqual(sum(crew.shares()), sum(counts))
                crew = Crew(net, workers=workers)
                while crew.tick() > 0:
                    self.assertEqual(problems(crew.present_net()), [])
                self.assertTrue(same_net(crew.present_net(), end))
                self.assertEqual(sum(crew.shares()), sum(counts))

    def test_whose_turn_it_is(self):
        for turns, workers in (([2], [2]), ([-1], [2]), ([-3], [0]), ([7], [1]), ([10 ** 20], [10 ** 20 % 3]),
                               ([1, 1, 1, 1], [1, 1, 1, 1]), ((), [0, 0, 1]), ([2, 2], [2, 2, 0, 1])):
            crew, slow = Crew(wired(SUMS), workers=3), SlowCrew(wired(SUMS), 3)
            self.assertRaises(TooLong, crew.run, turns=turns, most=len(workers))
            for worker in workers:
                slow.turn(worker)
            self.assertEqual(state(crew), state(slow))

    def test_without_turns_the_first_worker_with_a_pair_works(self):
        crew, slow = Crew(wired(SUMS), workers=3), SlowCrew(wired(SUMS), 3)
        crew.run()
        while any(slow.lists):
            slow.turn([number for number, pairs in enumerate(slow.lists) if pairs][0])
        self.assertEqual(state(crew), state(slow))

    def test_only_this_call_is_counted(self):
        crew = crew_for("let f = !(\\x:Int. x) in !(f (f 1))", 2)
        whole = crew_for("let f = !(\\x:Int. x) in !(f (f 1))", 2).run()
        done = [crew.turn(0), crew.turn(1)]
        rest = crew.run()
        self.assertEqual([some + done.count(rule) for some, rule in zip(rest, RULES)], list(whole))
        self.assertEqual(sum(crew.shares()), sum(whole))
        self.assertEqual(crew.run(), (0, 0, 0, 0, 0))

    def test_most(self):
        for text, steps in (("(\\x:Int. x) 5", 1), ("1 + 2", 2), ("let f = !(\\x:Int. x) in !(f (f 1))", 4)):
            for workers in (1, 3):
                self.assertEqual(sum(crew_for(text, workers).run(most=steps)), steps)
                for most in range(steps):
                    crew = crew_for(text, workers)
                    self.assertRaises(TooLong, crew.run, most=most)
                    self.assertEqual(sum(crew.shares()), most)
                    self.assertRaises(TooLong, crew.run, most=0, turns=LAST)
                    self.assertEqual(sum(crew.run(most=steps - most)), steps - most)

    def test_the_default(self):
        total = ("num", 0)
        for _ in range(5001):
            total = ("op", "+", total, ("num", 1))
        crew = Crew(net_of(total), workers=2)
        self.assertRaises(TooLong, crew.run)
        self.assertEqual(crew.shares(), [10000, 0])
        self.assertEqual(crew.run(), (0, 0, 0, 0, 2))

    def test_names_are_needed(self):
        net = net_of(read_term("1 + 2"))
        with self.assertRaises(TypeError):
            Crew(net, 2)
        with self.assertRaises(TypeError):
            Crew(net)
        with self.assertRaises(TypeError):
            Crew(net, workers=2).run([0])


class Values(unittest.TestCase):
    def test_the_given_net_does_not_change(self):
        net = net_of(doubled(3))
        before = plain(net)
        crew = Crew(net, workers=2)
        crew.run()
        self.assertEqual(plain(net), before)
        other = Crew(net, workers=2)
        run_net(net)
        self.assertEqual(plain(other.present_net()), before)

    def test_the_present_net_is_a_copy_with_the_same_new_names(self):
        crew = Crew(wired(SUMS), workers=2)
        crew.turn(0)
        found, again = crew.present_net(), crew.present_net()
        run_net(found)
        self.assertEqual(plain(crew.present_net()), plain(again))
        pair = crew.queues()[1][-1]
        interact(again, pair)
        crew.turn(1)
        self.assertEqual(plain(crew.present_net()), plain(again))

    def test_every_call_returns_new_lists(self):
        crew, other = Crew(wired(SUMS), workers=2), Crew(wired(SUMS), workers=2)
        queues = crew.queues()
        self.assertIsInstance(queues, list)
        self.assertIsInstance(queues[0], list)
        self.assertIsInstance(queues[0][0], tuple)
        queues[0].clear()
        queues.pop()
        crew.queues().clear()
        crew.shares()[0] = 7
        self.assertIsInstance(crew.shares(), list)
        self.assertEqual(state(crew), state(other))
