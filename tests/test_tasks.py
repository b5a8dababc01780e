"""Tests of measurehall.tasks: points [4] and [5]."""

import copy
import itertools
import random
import unittest

from kit import NUMBERS, OTHERS, slow_answer, slow_right
from measurehall.errors import BadMachine, BadSeed, BadTask, HallError
from measurehall.tasks import heart, right, score

ASKS = (right, score, heart)
DOUBLE = ((("any",), ("times", 2)),)
MOODY = ((("chance", 3, 1), ("plus", 1)), (("known", (2, 4, 8)), ("none",)), (("any",), ("num", 5)))
MOST_DUE = 99999999


def asked(*questions):
    """A task of weight 1 of (question, due, twin)."""
    return (tuple(questions), 1)


SOME = tuple((n, 2 * n, None) for n in range(20))


class Case(unittest.TestCase):
    def check_refused(self, error, value, machine, task, seed):
        for ask in ASKS:
            with self.subTest(ask=ask.__name__, task=repr(task)[:200], seed=seed):
                with self.assertRaises(HallError) as got:
                    ask(machine, task, seed=seed)
                self.assertIs(type(got.exception), error)
                if value is not None:
                    name = "row" if error is BadMachine else "number"
                    self.assertEqual(getattr(got.exception, name), value)
                    self.assertNotIsInstance(getattr(got.exception, name), bool)

    def check_bad_task(self, task, number):
        self.check_refused(BadTask, number, DOUBLE, task, 0)

    def check_bad_question(self, entry):
        """The entry can't be, wherever it stands, whatever stands behind it."""
        for at in (0, 1, 7, 15):
            for behind in ((), SOME[at + 1:16], (entry, None), (SOME[17], entry)):
                task = (SOME[:at] + (entry,) + behind, 1)
                self.check_bad_task(task, at)

    def check_taken(self, machine, task, seed=0):
        """The task is none that is refused, and told as it is by the slow way."""
        due = slow_right(machine, task, seed)
        self.assertEqual(right(machine, task, seed=seed), due)
        self.assertIs(type(right(machine, task, seed=seed)), tuple)
        self.assertEqual(score(machine, task, seed=seed), len(due))
        self.assertIs(type(score(machine, task, seed=seed)), int)
        self.assertIs(type(heart(machine, task, seed=seed)), tuple)


class Right(Case):
    def test_what_is_right_is_told_by_its_number(self):
        task = asked((5, 10, None), (6, 13, None), (0, 0, None), (100, 200, (1, 3)), (7, -14, (7, 14)))
        self.assertEqual(right(DOUBLE, task), (0, 2, 3))
        self.assertEqual(score(DOUBLE, task), 3)

    def test_none_and_all(self):
        self.assertEqual(right(DOUBLE, asked(*SOME[:16])), tuple(range(16)))
        self.assertEqual(score(DOUBLE, asked(*SOME[:16])), 16)
        wrong = asked(*[(n, 2 * n + 1, None) for n in range(16)])
        self.assertEqual(right(DOUBLE, wrong), ())
        self.assertEqual(score(DOUBLE, wrong), 0)

    def test_no_answer_is_right_for_nothing(self):
        silent = ((("any",), ("none",)),)
        deaf = ((("below", 0), ("num", 0)),)
        for machine in (silent, deaf):
            self.assertEqual(right(machine, asked((0, 0, None), (1, 0, (0, 0)))), ())
            self.assertEqual(score(machine, asked((0, 0, None))), 0)
            self.assertEqual(heart(machine, asked((1, 0, (0, 0)))), (1, 0, 0, 1, 1))

    def test_an_answer_of_nought_is_right_for_nought(self):
        machine = ((("any",), ("num", 0)),)
        self.assertEqual(right(machine, asked((4, 0, None), (3, 1, None), (2, 0, (9, 0)))), (0, 2))

    def test_the_seed_counts(self):
        # What 7 times a question and 13 times a seed leave by 3, both together leave.
        task = asked((1, 2, None), (2, 3, None), (4, 5, None), (5, 5, None))
        for seed in (0, 1, 2, 3, 4, 998, 999):
            self.check_taken(MOODY, task, seed)
        self.assertEqual(right(MOODY, task), right(MOODY, task, seed=0))
        self.assertEqual(right(MOODY, task, seed=0), (0, 2, 3))
        self.assertEqual(right(MOODY, task, seed=1), (3,))
        self.assertEqual(score(MOODY, task, seed=2), 1)
        self.assertEqual(right(MOODY, task, seed=2), (1,))

    def test_by_chance(self):
        chance = random.Random(5)
        for _ in range(300):
            questions = chance.sample(range(60), chance.randint(1, 16))
            task = (
                tuple((q, chance.choice((q + 1, 5, 2 * q)), None) for q in questions), chance.randint(1, 9),
            )
            for machine in (MOODY, DOUBLE):
                self.check_taken(machine, task, chance.randint(0, 999))

    def test_the_weight_does_not_count(self):
        for weight in range(1, 10):
            task = (SOME[:3] + ((3, 7, (1, 2)),), weight)
            self.assertEqual(right(DOUBLE, task), (0, 1, 2))
            self.assertEqual(score(DOUBLE, task), 3)
            self.assertEqual(heart(DOUBLE, task), (1, 0, 1, 2, 2))

    def test_the_twins_do_not_count(self):
        for twin in (None, (3, 6), (3, 7), (9999, 0)):
            self.assertEqual(right(DOUBLE, asked((3, 6, twin), (4, 9, twin), (0, 0, twin))), (0, 2))


class BadTasks(Case):
    def test_how_many_questions_there_may_be(self):
        for many in range(1, 17):
            self.check_taken(DOUBLE, asked(*SOME[:many]))
        self.check_bad_task(asked(), -1)
        for many in (17, 18, 20):
            self.check_bad_task(asked(*SOME[:many]), 16)

    def test_a_seventeenth_that_can_not_be(self):
        for other in OTHERS + (SOME[0], (20, 5), (20, 5, (20,)), (10000, 5, None)):
            self.check_bad_task(asked(*SOME[:16], other), 16)
            self.check_bad_task(asked(*SOME[:16], other, SOME[17]), 16)

    def test_one_that_can_not_be_ahead_of_a_seventeenth(self):
        for at in range(16):
            for bad in (None, (at, None, None), SOME[(at + 1) % 16] if at == 15 else (-1, 5, None)):
                self.check_bad_task(asked(*SOME[:at], bad, *SOME[at + 1:18]), at)

    def test_weights(self):
        for weight in range(1, 10):
            self.check_taken(DOUBLE, (SOME[:5], weight))
        for weight in (0, 10, -1, 11, 100) + tuple(other for other in OTHERS):
            self.check_bad_task((SOME[:5], weight), -1)
            self.check_bad_task((SOME[:2] + (None,), weight), -1)
            self.check_bad_task((SOME, weight), -1)
            self.check_bad_task(((None,), weight), -1)

    def test_what_is_no_such_tuple(self):
        for task in OTHERS + NUMBERS + (
            (SOME,), (SOME[:3],), (SOME[:3], 1, 1), (SOME[:3], 1, None), (1, SOME[:3]), [SOME[:3], 1],
            SOME[:3], (list(SOME[:3]), 1), ([None], 1), (None, 1), (True, 1), ("any", 1), (5, 1), ([], 1),
            ((), 1), ({}, 1), ((), 0), ((), None), (((),), 0), ((None,),), ((None,), 1, 1), [(None,), 1],
            ([SOME[0], None], 1),
        ):
            self.check_bad_task(task, -1)

    def test_others_in_the_place_of_a_question(self):
        for other in OTHERS + (5, 0, (5, 10), (5, 10, None, None), [5, 10, None], (5, 10, None, 1), {}):
            self.check_bad_question(other)

    def test_a_question_that_can_not_be(self):
        for question in (0, 1, 9998, 9999):
            self.check_taken(DOUBLE, asked((question, 0, None)))
        for question in OTHERS + (-1, -2, 10000, 10001, 99999999, (5, 10)):
            self.check_bad_question((question, 10, None))
            self.check_bad_question((question, 10, (5, 10)))

    def test_a_due_that_can_not_be(self):
        for due in (-MOST_DUE, -MOST_DUE + 1, -1, 0, 1, MOST_DUE - 1, MOST_DUE):
            self.check_taken(DOUBLE, asked((5, due, None)))
        for due in [other for other in OTHERS if other is True or other is False or not isinstance(other, int)]:
            self.check_bad_question((19, due, None))
        for due in (-MOST_DUE - 1, MOST_DUE + 1, -(10**30), 10**30):
            self.check_bad_question((19, due, None))
            self.check_bad_question((19, due, (5, 10)))

    def test_a_twin_that_can_not_be(self):
        self.check_taken(DOUBLE, asked((5, 10, (5, 10))))
        for twin in [other for other in OTHERS if other is not None]:
            self.check_bad_question((19, 10, twin))
        for twin in (
            0, 5, (5,), (5, 10, None), (5, 10, 15), [5, 10], ((5, 10),), ((5, 10), None), (None, None), (5, None),
            (None, 5), ("5", 10), (5, "10"), (True, 10), (5, True), (5, False), ([5], 10), (5, (10,)),
        ):
            self.check_bad_question((19, 10, twin))

    def test_the_bounds_of_a_twin(self):
        for question in (0, 1, 9998, 9999):
            self.check_taken(DOUBLE, asked((5, 10, (question, 3))))
        for question in (-1, 10000, 10**30):
            self.check_bad_question((19, 10, (question, 3)))
        for due in (-MOST_DUE, MOST_DUE, 0):
            self.check_taken(DOUBLE, asked((5, 10, (6, due))))
        for due in (-MOST_DUE - 1, MOST_DUE + 1):
            self.check_bad_question((19, 10, (6, due)))

    def test_the_greatest_answers_can_be_due(self):
        machine = ((("rest", 2, 1), ("times", 9999)), (("any",), ("times", -9999)))
        task = asked((9999, 99980001, (9999, 99980001)), (9998, -99970002, (9998, -99970002)))
        self.assertEqual(right(machine, task), (0, 1))
        self.assertEqual(heart(machine, task), (2, 2, 2, 1, 1))

    def test_one_told_twice(self):
        for many in range(2, 17):
            for at in range(1, many):
                for first in range(at):
                    entry = (first, -7, (5, 5))
                    task = asked(*SOME[:at], entry, *SOME[at + 1:many])
                    self.check_refused(BadTask, at, DOUBLE, task, 0)
        self.check_bad_task(asked(SOME[3], SOME[3]), 1)
        self.check_bad_task(asked(SOME[3], SOME[3], SOME[3]), 1)
        self.check_bad_task(asked(SOME[3], SOME[4], SOME[4], SOME[3], None), 2)

    def test_twins_may_be_any_question(self):
        # One that is asked, one that is asked elsewhere, one that is another one's twin.
        task = asked((1, 2, (1, 2)), (2, 4, (1, 3)), (3, 6, (2, 4)), (4, 8, (2, 4)), (5, 10, (9, 18)))
        self.check_taken(DOUBLE, task)
        self.assertEqual(heart(DOUBLE, task)[:3], (5, 5, 4))

    def test_the_first_that_can_not_be_is_told(self):
        bad = ((-1, 5, None), (5, None, None), (6, 5, ()), None, (3, 5, None))
        for at in (0, 1, 5, 15):
            for one in bad:
                if one is not None and one[0] == 3 and at < 5:
                    continue
                for other in bad:
                    self.check_bad_task(asked(*SOME[:at], one, other, *SOME[7:8]), at)


class Order(Case):
    def test_the_machine_is_refused_first(self):
        for machine, row in ((None, -1), ([], -1), ((None,), 0), (DOUBLE + (None,), 1), (DOUBLE * 13, 12)):
            for task in (asked(*SOME[:3]), None, asked(None), asked(*SOME), ((), 1)):
                for seed in (0, -1, 1000, None, True):
                    self.check_refused(BadMachine, row, machine, task, seed)

    def test_the_task_is_refused_ahead_of_the_seed(self):
        for task, number in ((None, -1), (asked(SOME[0], None), 1), (asked(*SOME), 16), ((SOME[:2], 0), -1)):
            for seed in (0, -1, 1000, None, True, "0", ()):
                self.check_refused(BadTask, number, DOUBLE, task, seed)

    def test_seeds(self):
        for seed in (0, 1, 998, 999):
            self.check_taken(MOODY, asked(*SOME[:9]), seed)
        for seed in (-1, 1000, 10000) + OTHERS:
            self.check_refused(BadSeed, None, MOODY, asked(*SOME[:9]), seed)
            self.check_refused(BadSeed, None, DOUBLE, asked(SOME[0]), seed)

    def test_a_seed_is_handed_in_by_its_name_alone(self):
        for ask in ASKS:
            with self.assertRaises(TypeError):
                ask(DOUBLE, asked(SOME[0]), 0)

    def test_nothing_handed_in_is_changed(self):
        for task in (asked(*SOME[:4]), [list(SOME[:4]), 1], (([5, 10, None],), 1), asked((5, 10, [5, 10]))):
            for ask in ASKS:
                kept = copy.deepcopy(task)
                try:
                    ask(DOUBLE, task)
                except BadTask:
                    pass
                self.assertEqual(task, kept)

    def test_asked_again(self):
        task = asked((1, 2, (2, 4)), (2, 3, (3, 5)))
        told = [ask(MOODY, task, seed=s) for ask in ASKS for s in range(20)]
        self.check_bad_task(asked(None), 0)
        self.assertEqual([ask(MOODY, task, seed=s) for ask in ASKS for s in range(20)], told)


def ways_by_hand(many, here, there):
    """How many ways lay no fewer on the questions, and all, laid out one by one."""
    ways = laid_out = 0
    for places in itertools.combinations(range(2 * many), here + there):
        laid_out += 1
        ways += sum(place < many for place in places) >= here
    return ways, laid_out


class Heart(Case):
    def paired(self, many, here, there, alone=()):
        """A task of that many twins, that many questions and twins answered right."""
        pairs = [
            (n, 2 * n + (n >= here), (100 + n, 200 + 2 * n + (n < many - there))) for n in range(many)
        ]
        return asked(*pairs, *alone)

    def test_against_all_ways_laid_out(self):
        for many in range(6):
            for here in range(many + 1):
                for there in range(many + 1):
                    alone = ((50, 100, None), (51, 0, None))
                    task = self.paired(many, here, there, alone)
                    due = (many, here, there) + ways_by_hand(many, here, there)
                    self.assertEqual(heart(DOUBLE, task), due)
                    if many:
                        self.assertEqual(heart(DOUBLE, self.paired(many, here, there)), due)

    def test_no_twins(self):
        self.assertEqual(heart(DOUBLE, asked(*SOME[:16])), (0, 0, 0, 1, 1))
        self.assertEqual(heart(DOUBLE, asked((5, 11, None))), (0, 0, 0, 1, 1))

    def test_all_by_heart(self):
        known = ((("known", (1, 2, 3)), ("times", 2)),)
        task = asked((1, 2, (4, 8)), (2, 4, (5, 10)), (3, 6, (6, 12)), (9, 18, None))
        self.assertEqual(heart(known, task), (3, 3, 0, 1, 20))
        self.assertEqual(heart(DOUBLE, task), (3, 3, 3, 1, 1))

    def test_those_without_a_twin_do_not_count(self):
        one = (1, 2, (2, 5))
        for alone in ((), (SOME[5],), SOME[5:9], ((9, 17, None),)):
            self.assertEqual(heart(DOUBLE, asked(*alone, one)), (1, 1, 0, 1, 2))
            self.assertEqual(heart(DOUBLE, asked(one, *alone)), (1, 1, 0, 1, 2))

    def test_told_out(self):
        # Of six ways to lay two on two questions and two twins five lay one or two on questions.
        self.assertEqual(heart(DOUBLE, self.paired(2, 1, 1)), (2, 1, 1, 5, 6))
        self.assertEqual(heart(DOUBLE, self.paired(2, 0, 2)), (2, 0, 2, 6, 6))
        self.assertEqual(heart(DOUBLE, self.paired(2, 2, 0)), (2, 2, 0, 1, 6))
        self.assertEqual(heart(DOUBLE, self.paired(2, 2, 1)), (2, 2, 1, 2, 4))
        self.assertEqual(heart(DOUBLE, self.paired(2, 0, 0)), (2, 0, 0, 1, 1))

    def test_sixteen(self):
        # 601080390 is how many ways there are to lay 16 on 32.
        self.assertEqual(heart(DOUBLE, self.paired(16, 16, 0)), (16, 16, 0, 1, 601080390))
        self.assertEqual(heart(DOUBLE, self.paired(16, 0, 16)), (16, 0, 16, 601080390, 601080390))
        self.assertEqual(heart(DOUBLE, self.paired(16, 16, 16)), (16, 16, 16, 1, 1))
        self.assertEqual(heart(DOUBLE, self.paired(16, 15, 1))[3:], (257, 601080390))

    def test_the_seed_counts_for_questions_and_twins(self):
        task = asked((1, 2, (7, 8)), (2, 3, (5, 6)), (3, 5, (6, 7)), (5, 6, (2, 3)))
        for seed in range(0, 1000, 37):
            here = sum(slow_answer(MOODY, q, seed) == due for q, due, _ in task[0])
            there = sum(slow_answer(MOODY, q, seed) == due for _, _, (q, due) in task[0])
            self.assertEqual(
                heart(MOODY, task, seed=seed), (4, here, there) + ways_by_hand(4, here, there)
            )
        self.assertEqual(len({heart(MOODY, task, seed=seed)[:3] for seed in range(3)}), 3)
        self.assertEqual(heart(MOODY, task), heart(MOODY, task, seed=0))

    def test_no_answer_is_no_right_twin(self):
        machine = ((("below", 5), ("times", 2)),)
        self.assertEqual(heart(machine, asked((1, 2, (6, 0)), (7, 0, (2, 4)))), (2, 1, 1, 5, 6))


if __name__ == "__main__":
    unittest.main()
