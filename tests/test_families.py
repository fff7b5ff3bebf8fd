"""Labels and families: points 21 to 24."""

import random
import unittest

from sharenet.core import core_of
from sharenet.errors import KindMismatch, LevelMismatch, TooLarge, TooLong, UnknownName, UseMismatch
from sharenet.families import family_sequence, work_of
from sharenet.labels import Labels
from sharenet.plain import normal_steps
from sharenet.reader import read_term
from tests.oracles import INT
from tests.reductions import families, numbered
from tests.sharing import PAIR, applied, doubled, made, numeral

LAST = [-1] * 2000
IDENTITY = "(\\x:Int. x)"


class Sequences(unittest.TestCase):
    def expect(self, text, wanted, work=None):
        found = family_sequence(read_term(text))
        self.assertEqual(found, wanted)
        self.assertIsInstance(found, list)
        if work is not None:
            self.assertEqual(work_of(read_term(text)), work)
            self.assertIsInstance(work_of(read_term(text)), tuple)

    def test_the_examples_of_the_interface(self):
        self.expect("let f = !(\\x:Int. x) in !(f (f 1))", [0, 1], (2, 0))
        self.expect("let v = !((\\x:Int. x) 1) in !(v + v)", [0, 0, -1], (1, 0))

    def test_terms_without_redexes(self):
        for text in ("1", "\\x:Int. x", "!(1, 2)", "\\x:Int. let y = x in y + y"):
            self.expect(text, [], (0, 0))

    def test_every_sort(self):
        self.expect(f"{IDENTITY} 1", [0], (1, 0))
        self.expect("1 + 2 * 3", [-1, -1], (0, 0))
        self.expect("(\\x:Int. x + 1) 2", [0, -1], (1, 0))
        self.expect("let (x, y) = (1, 2) in (y, 3 - x)", [0, 0, -1], (0, 1))

    def test_both_parts_of_a_pair_have_one_family(self):
        self.expect("let (x, y) = (1, 2) in (y, x)", [0, 0], (0, 1))
        self.expect("let (x, y) = ((1, 2), 3) in let (a, b) = x in ((a, b), y)", [0, 1, 0, 1, 0], (0, 2))

    def test_separate_copies(self):
        self.expect(f"({IDENTITY} 1, {IDENTITY} 1)", [0, 1], (2, 0))
        self.expect("let f = !(\\x:Int. x) in !(f 1, f 1)", [0, 1], (2, 0))
        self.expect("let f = !(\\x:Int. x) in let g = !f in !(g (f (g 1)))", [0, 1, 2], (3, 0))
        self.expect("let p = !(1, 2) in !(let (a, b) = p in let (c, d) = p in (a, (b, (c, d))))", [0, 0, 1, 1], (0, 2))

    def test_shared_copies(self):
        self.expect(f"let v = {IDENTITY} 1 in v + v", [0, 0, -1], (1, 0))
        self.expect(f"let v = {IDENTITY} 1 in v + (v + v)", [0, 0, 0, -1, -1], (1, 0))
        self.expect(f"let v = !({IDENTITY} 1) in !(v, v)", [0, 0], (1, 0))
        self.expect(f"let v = (\\x:Int. x + 1) ({IDENTITY} 1) in (v, v)", [0, 1, -1, 0, 1, -1], (2, 0))

    def test_copies_through_a_let_in_a_let(self):
        self.expect(f"let v = {IDENTITY} 1 in let w = v in let u = w in w + u", [0, 0, -1], (1, 0))
        self.expect(f"let v = {IDENTITY} 1 in let w = v + v in w + w", [0, 0, -1, 0, 0, -1, -1], (1, 0))
        self.expect(f"let w = let v = {IDENTITY} 1 in v + v in w + w", [0, 0, -1, 0, 0, -1, -1], (1, 0))
        self.expect("let f = !(\\x:Int. x) in let g = !(\\y:Int. f y) in !(g 1, g 2)", [0, 1, 2, 1], (3, 0))

    def test_copies_through_boxes(self):
        self.expect(f"let v = !!({IDENTITY} 1) in !(let w = v in !(w + w))", [0, 0, -1], (1, 0))
        self.expect(f"let v = !!({IDENTITY} 1) in !(v, v)", [0, 0], (1, 0))
        self.expect(f"let v = !!({IDENTITY} 1) in !(let a = v in let b = v in !(a + b))", [0, 0, -1], (1, 0))

    def test_copies_through_pairs(self):
        self.expect(f"let v = {IDENTITY} 1 in let (a, b) = (v, v) in a + b", [0, 1, 0, 1, -1], (1, 1))
        self.expect(f"let v = !({IDENTITY} 1, 2) in !(let (a, b) = v in let (c, d) = v in ((a, b), (c, d)))",
                    [0, 1, 0, 2, 1, 2], (1, 2))

    def test_copies_through_functions_that_are_applied_twice(self):
        self.expect(f"(\\x:Int. let y = x in y + y) ({IDENTITY} 1)", [0, 1, 1, -1], (2, 0))
        self.expect("let f = !(\\x:Int. (\\y:Int. y) 1 + x) in !(f 1 + f 2)", [0, 1, -1, 2, 1, -1, -1], (3, 0))
        self.expect("(\\f:!(Int -> Int). let g = f in !(g (g 1))) !(\\x:Int. (\\y:Int. y) x)", [0, 1, 2, 3, 2], (4, 0))
        self.expect("(\\f:!(Int -> Int). let g = f in !(g (g 1))) !(\\x:Int. x + (\\y:Int. y) 5)",
                    [0, 1, 2, 3, -1, 3, -1], (4, 0))

    def test_made_terms(self):
        choices = random.Random(30)
        for term in made(60, 20) + made(40)[40:]:
            if sum(normal_steps(core_of(term))) > 120:
                continue
            wanted, _ = families(term, ())
            self.assertEqual(family_sequence(term), numbered(wanted))
            chosen = [choices.randrange(-30, 30) for _ in range(120)]
            other, _ = families(term, chosen)
            self.assertEqual(family_sequence(term, choices=chosen), numbered(other))
            self.assertEqual(set(wanted), set(other))

    def test_the_work_of_made_terms(self):
        choices, again = random.Random(31), 0
        for term in made(100):
            steps = normal_steps(core_of(term))
            if sum(steps) > 1000:
                continue
            work = work_of(term)
            self.assertLessEqual(work[0], steps[0])
            self.assertLessEqual(work[1], steps[1])
            again += sum(steps[:2]) - sum(work)
            chosen = [choices.randrange(1000) for _ in range(1000)]
            sequence = family_sequence(term, choices=chosen)
            self.assertEqual(len(set(sequence) - {-1}), sum(work))
        self.assertGreater(again, 100)


class Choices(unittest.TestCase):
    TERM = read_term("let v = (\\x:Int. x + 1) ((\\x:Int. x) 1) in (v, v)")

    def test_other_redexes(self):
        self.assertEqual(family_sequence(self.TERM), [0, 1, -1, 0, 1, -1])
        self.assertEqual(family_sequence(self.TERM, choices=[1]), [0, 1, -1, 1, 0, -1])
        self.assertEqual(family_sequence(self.TERM, choices=[1, 1]), [0, 1, 1, -1, 0, -1])
        self.assertEqual(family_sequence(self.TERM, choices=[0, 0, 1]), [0, 1, 0, -1, 1, -1])

    def test_negative_choices_and_choices_that_are_too_great(self):
        for choices in ([1, 1, 0, 1], [5, 4, 6, 3], [-3, -2, -6, -1], [4001, 4000, 3000, -19]):
            self.assertEqual(family_sequence(self.TERM, choices=choices), [0, 1, 1, 0, -1, -1])
        self.assertEqual(family_sequence(self.TERM, choices=LAST), [0, 1, -1, 0, 1, -1])
        self.assertEqual(family_sequence(self.TERM, choices=[10 ** 30 + 1]), family_sequence(self.TERM, choices=[1]))

    def test_choices_that_are_too_few_or_too_many(self):
        self.assertEqual(family_sequence(self.TERM, choices=[]), family_sequence(self.TERM))
        self.assertEqual(family_sequence(self.TERM, choices=[-1]), family_sequence(self.TERM, choices=[-1, 0, 0, 0, 0, 0]))
        self.assertEqual(family_sequence(self.TERM, choices=LAST), family_sequence(self.TERM, choices=LAST[:6]))
        self.assertEqual(family_sequence(read_term("1"), choices=LAST), [])

    def test_tuples(self):
        self.assertEqual(family_sequence(self.TERM, choices=(1, 1, 0, 1)), [0, 1, 1, 0, -1, -1])
        chosen = [1, 1]
        family_sequence(self.TERM, choices=chosen)
        self.assertEqual(chosen, [1, 1])

    def test_every_call_returns_a_new_list(self):
        family_sequence(self.TERM).append(7)
        self.assertEqual(family_sequence(self.TERM), [0, 1, -1, 0, 1, -1])

    def test_first_redexes_behind_chosen_ones(self):
        term = read_term("(1 + 2, (3 + 4, (\\x:Int. x) 5 + (\\x:Int. x) 6))")
        self.assertEqual(family_sequence(term, choices=[-1]), [0, -1, -1, 1, -1])
        self.assertEqual(family_sequence(term, choices=[-1, -1]), [0, 1, -1, -1, -1])
        self.assertEqual(family_sequence(term, choices=[2, 0, -1]), [0, -1, 1, -1, -1])


class Limits(unittest.TestCase):
    TERM = applied(5, read_term("\\x:Int. x + 1"), ("num", 0))

    def test_most(self):
        steps = sum(normal_steps(core_of(self.TERM)))
        self.assertEqual(steps, 12)
        for choices in ((), LAST, [3, 1, 4]):
            self.assertEqual(len(family_sequence(self.TERM, choices=choices, most=12)), 12)
            for most in range(12):
                self.assertRaises(TooLong, family_sequence, self.TERM, choices=choices, most=most)
        self.assertEqual(work_of(self.TERM, most=12), (7, 0))
        for most in range(12):
            self.assertRaises(TooLong, work_of, self.TERM, most=most)

    def test_most_of_0(self):
        self.assertEqual(family_sequence(("num", 1), most=0), [])
        self.assertEqual(work_of(("num", 1), most=0), (0, 0))

    def test_the_default(self):
        total = ("num", 1)
        for _ in range(2000):
            total = ("op", "+", total, ("num", 1))
        self.assertEqual(family_sequence(total), [-1] * 2000)
        self.assertEqual(work_of(total), (0, 0))
        self.assertRaises(TooLong, family_sequence, ("op", "+", total, ("num", 1)))
        self.assertRaises(TooLong, work_of, ("op", "+", total, ("num", 1)))

    def test_the_errors_of_core_of_come_first(self):
        for text, error in (("\\x:Int. y", UnknownName), ("1 2", KindMismatch), ("let x = 1 in !x", LevelMismatch),
                            ("\\x:Int. 1", UseMismatch),
                            ("let x = 1 + 1 in " + "let x = x + x in " * 20 + "x", TooLarge)):
            self.assertRaises(error, family_sequence, read_term(text))
            self.assertRaises(error, work_of, read_term(text))
            self.assertRaises(error, family_sequence, read_term(text), most=0)
            self.assertRaises(error, work_of, read_term(text), most=0)

    def test_names_are_needed_for_what_may_be_left_out(self):
        with self.assertRaises(TypeError):
            family_sequence(("num", 1), [])
        with self.assertRaises(TypeError):
            work_of(("num", 1), 5)


class Sharing(unittest.TestCase):
    def test_families_that_are_contracted_several_times(self):
        for times in range(1, 9):
            term = doubled(times)
            self.assertEqual(work_of(term), (3 * times, 0))
            self.assertEqual(normal_steps(core_of(term)), (3 * 2 ** times - 3, 0, 0))

    def test_labels_that_are_too_long_to_be_written(self):
        found = family_sequence(doubled(60), choices=LAST)
        self.assertEqual(found, list(range(180)))

    def test_numerals(self):
        self.assertEqual(work_of(applied(10, read_term("\\x:Int. x * 2"), ("num", 1))), (12, 0))
        step = read_term("\\p:(Int, Int). let (a, b) = p in let c = b in (c, a + c)")
        for count in range(1, 7):
            term = applied(count, step, ("pair", ("num", 0), ("num", 1)), PAIR)
            self.assertEqual(work_of(term), (count + 2, count))
        self.assertEqual(work_of(("app", numeral(3), ("app", numeral(2), ("box", ("lam", "x", INT, ("var", "x")))))),
                         (7, 0))

    def test_more_redexes_than_could_be_counted_one_by_one(self):
        term = ("var", "x")
        for _ in range(60):
            term = ("app", ("lam", "x", INT, term), read_term("let y = x in y + y"))
        term = ("lam", "x", INT, term)
        self.assertEqual(len(set(family_sequence(term))), 60)
        self.assertEqual(len(set(family_sequence(term, choices=LAST))), 60)
        self.assertRaises(TooLong, family_sequence, ("app", term, ("num", 1)), choices=[10 ** 15] * 300)


class LongSequences(unittest.TestCase):
    def test_equal_labels_have_equal_numbers(self):
        choices = random.Random(32)
        for alphabet in (1, 1, 2, 3, 10) * 4:
            labels, numbers = Labels(), {}
            for mark in range(alphabet):
                numbers[(mark,)] = labels.of_marks((mark,))
            for _ in range(60):
                first, second = choices.choices(list(numbers)[-8:] + list(numbers), k=2)
                sort, label = choices.choice(["over", "under"]), choices.randrange(2)
                whole = (*first, (sort, label), *second)
                if len(whole) < 2000:
                    numbers[whole] = labels.joined(numbers[first], sort, label, numbers[second])
                    self.assertEqual(labels.of_marks(whole), numbers[whole])
            self.assertEqual(len(set(numbers.values())), len(numbers))

    def test_marks_that_are_repeated(self):
        labels, seen = Labels(), set()
        for marks in ((1,), (1, 2), (2, 2, 1), (1, 2, 1)):
            for many in range(1, 40):
                seen.add(labels.of_marks(marks * many))
        self.assertEqual(len(seen), 4 * 39)
        for marks in ((1,), (1, 2), (1, ("over", 0)), (("over", 0),)):
            for many in range(1, 20):
                first, second = labels.of_marks(marks * many), labels.of_marks(marks * 3)
                whole = labels.of_marks(marks * many + (("over", 0),) + marks * 3)
                self.assertEqual(labels.joined(first, "over", 0, second), whole)

    def test_very_long_labels(self):
        labels = Labels()
        powers = [labels.of_marks((1, 2, 3))]
        for _ in range(200):
            powers.append(labels.joined(powers[-1], "over", 0, powers[-1]))
        self.assertEqual(len(set(powers)), 201)
        part = labels.joined(powers[198], "over", 0, powers[199])
        self.assertEqual(labels.joined(part, "over", 0, powers[198]), powers[200])
        self.assertNotEqual(labels.joined(part, "under", 0, powers[198]), powers[200])
        self.assertNotEqual(labels.joined(part, "over", 1, powers[198]), powers[200])
