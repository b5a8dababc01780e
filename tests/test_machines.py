"""Tests of measurehall.machines: points [1] and [2]."""

import copy
import unittest

from measurehall.errors import BadMachine, BadQuestion, BadSeed, HallError
from measurehall.machines import answered

QUESTIONS = (0, 1, 2, 3, 17, 98, 99, 100, 1234, 5000, 9998, 9999)
SEEDS = (0, 1, 2, 7, 98, 99, 500, 998, 999)

# What is handed in where something else is due, and can't be there, whatever is due.
OTHERS = (
    True, False, None, -10000, 10**30, -(10**30), "", "5", "ab", "any", "none",
    (), (5,), (True,), (None,), ("5",), ((),), (5, 6, 7), (5, (6,)),
    [], [5], [None], [[]], [("any",)], [("any",), ("none",)], [(5,), [6]],
)

# Rows with one number to fill in, the least and the greatest that may be.
NUMBERS_IN_TESTS = (
    (lambda n: ("below", n), 0, 9999),
    (lambda n: ("rest", n, 0), 2, 99),
    (lambda n: ("rest", 2, n), 0, 1),
    (lambda n: ("rest", 7, n), 0, 6),
    (lambda n: ("rest", 99, n), 0, 98),
    (lambda n: ("chance", n, 0), 2, 99),
    (lambda n: ("chance", 2, n), 0, 1),
    (lambda n: ("chance", 7, n), 0, 6),
    (lambda n: ("chance", 99, n), 0, 98),
    (lambda n: ("known", (n,)), 0, 9999),
    (lambda n: ("known", (n, 9999)), 0, 9998),
    (lambda n: ("known", (0, n)), 1, 9999),
    (lambda n: ("known", (10, n, 20)), 11, 19),
    (lambda n: ("known", (0, 1, 2, 3, 4, 5, 6, n)), 7, 9999),
)
NUMBERS_IN_ANSWERS = (
    (lambda n: ("num", n), -9999, 9999),
    (lambda n: ("plus", n), -9999, 9999),
    (lambda n: ("times", n), -9999, 9999),
    (lambda n: ("rest", n), 2, 99),
)

GOOD_ROWS = (
    (("below", 5), ("num", 1)),
    (("rest", 7, 3), ("plus", -2)),
    (("chance", 9, 4), ("times", 3)),
    (("known", (8, 10, 9999)), ("rest", 6)),
    (("any",), ("none",)),
    (("any",), ("num", 0)),
    (("below", 9999), ("plus", 9999)),
    (("rest", 99, 98), ("times", -9999)),
    (("chance", 2, 0), ("rest", 99)),
    (("known", (0,)), ("none",)),
    (("below", 0), ("num", -9999)),
    (("any",), ("rest", 2)),
)

ANY = ("any",)
NONE = ("none",)


def by_test(test):
    """A machine that answers 1 where the test holds, and nothing elsewhere."""
    return ((test, ("num", 1)),)


def by_answer(answer):
    """A machine that gives that answer to everything."""
    return ((ANY, answer),)


class Case(unittest.TestCase):
    def check_test(self, test, holds):
        """The test holds just for those questions and seeds."""
        machine = by_test(test)
        for question in QUESTIONS:
            for seed in SEEDS:
                due = 1 if holds(question, seed) else None
                self.assertEqual(answered(machine, question, seed=seed), due, (test, question, seed))

    def check_answer(self, answer, due):
        """The answer is that, whatever the question and the seed."""
        machine = by_answer(answer)
        for question in QUESTIONS:
            for seed in SEEDS:
                got = answered(machine, question, seed=seed)
                self.assertEqual(got, due(question), (answer, question, seed))
                self.assertNotIsInstance(got, bool)

    def check_bad_machine(self, machine, row, question=5, seed=0):
        with self.subTest(machine=repr(machine)[:200], question=question, seed=seed):
            with self.assertRaises(HallError) as got:
                answered(machine, question, seed=seed)
            self.assertIs(type(got.exception), BadMachine)
            self.assertEqual(got.exception.row, row)
            self.assertNotIsInstance(got.exception.row, bool)

    def check_bad_row(self, row):
        """The row can't be, wherever it stands, whatever stands behind it."""
        good = GOOD_ROWS
        self.check_bad_machine((row,), 0)
        self.check_bad_machine((row,) + good[:3], 0)
        self.check_bad_machine((row, row), 0)
        self.check_bad_machine(good[:1] + (row,), 1)
        self.check_bad_machine(good[:5] + (row,) + good[5:7], 5)
        self.check_bad_machine(good[:4] + (row, good[4], row, None), 4)
        self.check_bad_machine(good[:11] + (row,), 11)
        self.check_bad_machine(good[:11] + (row, good[11]), 11)

    def check_refused(self, error, machine, question, seed):
        with self.subTest(machine=machine, question=question, seed=seed):
            with self.assertRaises(HallError) as got:
                answered(machine, question, seed=seed)
            self.assertIs(type(got.exception), error)


class Tests(Case):
    def test_any(self):
        self.check_test(ANY, lambda q, s: True)

    def test_below(self):
        for bound in (0, 1, 2, 17, 18, 5000, 9998, 9999):
            self.check_test(("below", bound), lambda q, s: q < bound)

    def test_below_just_at_its_bound(self):
        for bound in (1, 2, 500, 9999):
            machine = by_test(("below", bound))
            self.assertEqual(answered(machine, bound - 1), 1)
            self.assertIsNone(answered(machine, bound))

    def test_below_nothing_and_below_the_greatest(self):
        self.assertIsNone(answered(by_test(("below", 0)), 0))
        self.assertEqual(answered(by_test(("below", 9999)), 9998), 1)
        self.assertIsNone(answered(by_test(("below", 9999)), 9999))

    def test_rest(self):
        for divisor in (2, 3, 7, 10, 50, 98, 99):
            for rest in (0, 1, divisor // 2, divisor - 1):
                self.check_test(("rest", divisor, rest), lambda q, s: q % divisor == rest)

    def test_rest_of_each_number(self):
        for divisor in (2, 7, 99):
            for rest in range(divisor):
                machine = by_test(("rest", divisor, rest))
                held = [q for q in range(300) if answered(machine, q) == 1]
                self.assertEqual(held, list(range(rest, 300, divisor)))

    def test_chance(self):
        for divisor in (2, 3, 7, 10, 13, 50, 98, 99):
            for rest in (0, 1, divisor // 2, divisor - 1):
                self.check_test(
                    ("chance", divisor, rest), lambda q, s: (7 * q + 13 * s) % divisor == rest
                )

    def test_chance_by_each_seed(self):
        for divisor, rest, question in ((2, 1, 3), (10, 4, 9999), (97, 96, 0), (99, 0, 1234)):
            machine = by_test(("chance", divisor, rest))
            held = [s for s in range(1000) if answered(machine, question, seed=s) == 1]
            due = [s for s in range(1000) if (7 * question + 13 * s) % divisor == rest]
            self.assertEqual(held, due)
            self.assertTrue(0 < len(held) < 1000)

    def test_chance_by_each_question(self):
        for divisor, rest, seed in ((2, 0, 999), (99, 98, 0), (11, 5, 42)):
            machine = by_test(("chance", divisor, rest))
            held = [q for q in range(10000) if answered(machine, q, seed=seed) == 1]
            self.assertEqual(held, [q for q in range(10000) if (7 * q + 13 * seed) % divisor == rest])

    def test_chance_told_out(self):
        # 7 * 3 + 13 * 5 is 86, 7 * 3 is 21.
        self.assertEqual(answered(by_test(("chance", 10, 6)), 3, seed=5), 1)
        self.assertIsNone(answered(by_test(("chance", 10, 6)), 3, seed=6))
        self.assertEqual(answered(by_test(("chance", 10, 1)), 3, seed=0), 1)

    def test_known(self):
        for numbers in (
            (0,), (9999,), (17,), (0, 9999), (1, 2, 3), (3, 17), (97, 98, 100),
            (0, 1, 2, 3, 17, 98, 99, 100), (9992, 9993, 9994, 9995, 9996, 9997, 9998, 9999),
        ):
            self.check_test(("known", numbers), lambda q, s: q in numbers)

    def test_known_of_all_questions(self):
        numbers = (0, 5, 6, 400, 401, 8000, 9990, 9999)
        machine = by_test(("known", numbers))
        held = tuple(q for q in range(10000) if answered(machine, q, seed=3) == 1)
        self.assertEqual(held, numbers)

    def test_only_chance_looks_at_the_seed(self):
        for test in (ANY, ("below", 50), ("rest", 5, 2), ("known", (2, 4, 47))):
            for question in (2, 47, 52, 9999):
                told = [answered(by_test(test), question, seed=s) for s in range(0, 1000, 37)]
                self.assertEqual(len(set(told)), 1)


class Answers(Case):
    def test_num(self):
        for number in (-9999, -9998, -1, 0, 1, 5, 9998, 9999):
            self.check_answer(("num", number), lambda q: number)

    def test_plus(self):
        for number in (-9999, -9998, -1, 0, 1, 5, 9998, 9999):
            self.check_answer(("plus", number), lambda q: q + number)

    def test_times(self):
        for number in (-9999, -9998, -1, 0, 1, 5, 9998, 9999):
            self.check_answer(("times", number), lambda q: q * number)

    def test_the_least_and_the_greatest(self):
        self.assertEqual(answered(by_answer(("plus", -9999)), 0), -9999)
        self.assertEqual(answered(by_answer(("plus", 9999)), 9999), 19998)
        self.assertEqual(answered(by_answer(("times", 9999)), 9999), 99980001)
        self.assertEqual(answered(by_answer(("times", -9999)), 9999), -99980001)

    def test_rest(self):
        for divisor in (2, 3, 7, 10, 50, 98, 99):
            self.check_answer(("rest", divisor), lambda q: q % divisor)

    def test_none(self):
        self.check_answer(NONE, lambda q: None)

    def test_each_answer_behind_each_test(self):
        tests = (
            (ANY, True), (("below", 43), True), (("below", 42), False), (("rest", 5, 2), True),
            (("rest", 5, 3), False), (("chance", 10, 5), True), (("chance", 10, 4), False),
            (("known", (1, 42)), True), (("known", (41, 43)), False),
        )
        answers = (
            (("num", -7), -7), (("plus", 8), 50), (("times", -2), -84), (("rest", 9), 6), (NONE, None),
        )
        # 7 * 42 + 13 * 7 is 385.
        for test, holds in tests:
            for answer, due in answers:
                with self.subTest(test=test, answer=answer):
                    got = answered(((test, answer),), 42, seed=7)
                    self.assertEqual(got, due if holds else None)


class Rows(Case):
    def test_the_first_row_whose_test_holds_answers(self):
        machine = (
            (("known", (3, 17)), ("num", 5)),
            (("below", 10), ("plus", 100)),
            (("chance", 7, 2), ("times", -1)),
            (("rest", 2, 0), ("rest", 10)),
            (ANY, NONE),
        )
        told = {
            (3, 0): 5, (17, 0): 5, (3, 999): 5, (4, 0): 104, (9, 0): 109, (0, 0): 100,
            (10, 0): 0, (28, 0): 8, (11, 0): None, (28, 5): -28, (11, 5): -11, (10, 5): -10,
        }
        # 13 * 5 is 65, which leaves 2 by 7; seven times a question leaves 0.
        for (question, seed), due in told.items():
            with self.subTest(question=question, seed=seed):
                self.assertEqual(answered(machine, question, seed=seed), due)

    def test_a_row_behind_does_not_answer(self):
        first = (ANY, ("num", 1))
        self.assertEqual(answered((first, (ANY, ("num", 2)), (("known", (5,)), ("num", 3))), 5), 1)

    def test_the_last_row_answers_if_it_alone_holds(self):
        machine = tuple((("known", (n,)), ("num", n)) for n in range(11)) + ((ANY, ("num", -1)),)
        self.assertEqual(len(machine), 12)
        for question in range(11):
            self.assertEqual(answered(machine, question), question)
        for question in (11, 12, 9999):
            self.assertEqual(answered(machine, question), -1)

    def test_none_where_no_test_holds(self):
        machine = (
            (("below", 10), ("num", 1)), (("rest", 2, 0), ("num", 2)), (("known", (13, 15)), ("num", 3)),
        )
        self.assertIsNone(answered(machine, 11))
        self.assertIsNone(answered(machine, 9999, seed=999))
        self.assertEqual(answered(machine, 13), 3)
        twelve = tuple((("known", (n,)), ("num", n)) for n in range(12))
        self.assertIsNone(answered(twelve, 12))

    def test_a_row_that_answers_none_ends_the_run(self):
        machine = ((("below", 10), NONE), (ANY, ("num", 4)))
        self.assertIsNone(answered(machine, 9))
        self.assertEqual(answered(machine, 10), 4)

    def test_an_answer_of_nought_is_an_answer(self):
        for answer in (("num", 0), ("plus", -5), ("times", 0), ("rest", 5)):
            machine = ((ANY, answer), (ANY, ("num", 9)))
            self.assertEqual(answered(machine, 5), 0)

    def test_one_row_and_twelve_rows(self):
        self.assertIsNone(answered(GOOD_ROWS[:1], 5))
        self.assertEqual(answered(GOOD_ROWS[:1], 4), 1)
        self.assertEqual(len(GOOD_ROWS), 12)
        self.assertEqual(answered(GOOD_ROWS, 4), 1)
        self.assertEqual(answered(GOOD_ROWS, 10, seed=1), 8)
        self.assertEqual(answered(GOOD_ROWS, 8, seed=1), 2)
        self.assertEqual(answered(GOOD_ROWS, 9, seed=1), 27)
        self.assertIsNone(answered(GOOD_ROWS, 9))


class BadMachines(Case):
    def test_no_tuple_and_no_rows(self):
        rows = list(GOOD_ROWS[:2])
        for machine in (
            None, True, False, 0, 1, -1, 12, 10**30, "", "any none", "known 3,17 num 5", (), [],
            rows, [GOOD_ROWS[0]], [[]], [None], [("any",), ("none",)], list(GOOD_ROWS) + rows,
        ):
            self.check_bad_machine(machine, -1)

    def test_a_row_itself_is_no_machine(self):
        self.check_bad_machine((ANY, NONE), 0)
        self.check_bad_machine(("any", "none"), 0)
        self.check_bad_machine(("any",), 0)

    def test_a_thirteenth_row(self):
        self.check_bad_machine(GOOD_ROWS + GOOD_ROWS[:1], 12)
        self.check_bad_machine(GOOD_ROWS + GOOD_ROWS, 12)
        self.check_bad_machine(((ANY, NONE),) * 13, 12)
        self.check_bad_machine(((ANY, NONE),) * 100, 12)
        for other in OTHERS:
            self.check_bad_machine(GOOD_ROWS + (other,), 12)
            self.check_bad_machine(GOOD_ROWS + (other, None), 12)

    def test_a_bad_row_ahead_of_a_thirteenth(self):
        for at in range(12):
            machine = GOOD_ROWS[:at] + (None,) + GOOD_ROWS[at + 1:] + GOOD_ROWS[:1]
            self.check_bad_machine(machine, at)

    def test_a_bad_row_at_each_place(self):
        bad = (("below", 10000), ("num", 1))
        for many in range(1, 13):
            for at in range(many):
                self.check_bad_machine(GOOD_ROWS[:at] + (bad,) + GOOD_ROWS[at + 1:many], at)
                self.check_bad_machine(GOOD_ROWS[:at] + (bad,) * (many - at), at)

    def test_a_bad_row_behind_one_that_answers(self):
        self.check_bad_machine(((ANY, ("num", 1)), (ANY, ("num", 10000))), 1)
        self.check_bad_machine(((ANY, ("num", 1)), (("rest", 1, 0), NONE)), 1)

    def test_a_bad_answer_behind_a_test_that_does_not_hold(self):
        self.check_bad_machine(((("below", 0), ("num", True)),), 0)

    def test_others_in_the_place_of_a_row(self):
        for other in OTHERS:
            self.check_bad_row(other)

    def test_rows_of_a_wrong_length_or_kind(self):
        for row in (
            (ANY,), (NONE,), (ANY, NONE, NONE), (ANY, ANY, NONE), (ANY, NONE, None), (ANY, None),
            (None, NONE), [ANY, NONE], [ANY, NONE, NONE], (NONE, ANY), ("any", "none"), "an",
            ((ANY, NONE),), (ANY + NONE,), ANY + NONE, ((ANY,), (NONE,)), ((), ()),
        ):
            self.check_bad_row(row)

    def test_others_in_the_place_of_a_test(self):
        for other in OTHERS:
            self.check_bad_row((other, ("num", 1)))

    def test_others_in_the_place_of_an_answer(self):
        for other in OTHERS:
            self.check_bad_row((ANY, other))

    def test_tests_of_a_wrong_word_or_length(self):
        for test in (
            ("any", 1), ("any", None), ("any", ()), ("Any",), ("any ",), ("",), ("all",), ("none",),
            ("num", 5), ("plus", 5), ("times", 5), ("below",), ("below", 1, 2), ("Below", 1),
            ("rest",), ("rest", 3), ("rest", 3, 1, 0), ("rest", 3, 1, None), ("chance",), ("chance", 3),
            ("chance", 3, 1, 0), ("known",), ("known", 3, 17), ("known", (3,), (17,)), ("known", (3,), 3),
            (5, 5), (None, 5), (True,), (ANY,), (["any"],), ("any", "below", 5), ("b", "elow", 5),
            ["any"], ["below", 5], ["rest", 3, 1], ["chance", 3, 1], ["known", (3, 17)], "any", "below 5",
        ):
            self.check_bad_row((test, ("num", 1)))

    def test_answers_of_a_wrong_word_or_length(self):
        for answer in (
            ("none", 0), ("none", None), ("none", ()), ("None",), ("",), ("any",), ("below", 5),
            ("known", (5,)), ("chance", 3), ("chance", 3, 1), ("num",), ("num", 1, 2), ("Num", 1),
            ("plus",), ("plus", 1, 2), ("times",), ("times", 1, 2), ("rest",), ("rest", 3, 1), ("minus", 1),
            (5, 5), (None, 5), (True,), (NONE,), (["none"],), ("num", (5,)), ("num", [5]),
            ["none"], ["num", 5], ["plus", 5], ["times", 5], ["rest", 5], "none", "num 5",
        ):
            self.check_bad_row((ANY, answer))


class BadNumbers(Case):
    def fillings(self):
        """Rows with one number to fill in, the least and the greatest one."""
        for test, low, high in NUMBERS_IN_TESTS:
            yield (lambda n, test=test: (test(n), ("num", 1))), low, high
        for answer, low, high in NUMBERS_IN_ANSWERS:
            yield (lambda n, answer=answer: (ANY, answer(n))), low, high

    def test_the_bounds_may_be(self):
        for row, low, high in self.fillings():
            for number in (low, low + 1, (low + high) // 2, high - 1, high):
                if low <= number <= high:
                    with self.subTest(row=row(number)):
                        answered((row(number),), 5)

    def test_just_outside_of_the_bounds(self):
        for row, low, high in self.fillings():
            self.check_bad_row(row(low - 1))
            self.check_bad_row(row(high + 1))

    def test_others_in_the_place_of_numbers(self):
        for row, low, high in self.fillings():
            for other in OTHERS:
                self.check_bad_row(row(other))

    def test_numbers_far_outside(self):
        for row, low, high in self.fillings():
            for number in (-(10**6), 10**6, 10**40, -(10**40)):
                self.check_bad_machine((row(number),), 0)

    def test_true_and_false_where_one_and_nought_may_be(self):
        for one, nought in (
            (lambda n: (("below", n), NONE), True), (lambda n: (("rest", 2, n), NONE), True),
            (lambda n: (("chance", 2, n), NONE), True), (lambda n: (("known", (n,)), NONE), True),
            (lambda n: (("known", (n, 2)), NONE), True), (lambda n: (("known", (0, n)), NONE), False),
            (lambda n: (ANY, ("num", n)), True), (lambda n: (ANY, ("plus", n)), True),
            (lambda n: (ANY, ("times", n)), True),
        ):
            answered((one(1),), 5)
            self.check_bad_row(one(True))
            if nought:
                answered((one(0),), 5)
                self.check_bad_row(one(False))

    def test_a_rest_no_less_than_its_divisor(self):
        for word in ("rest", "chance"):
            for divisor in (2, 3, 50, 98, 99):
                answered((((word, divisor, divisor - 1), NONE),), 5)
                for rest in (divisor, divisor + 1, 99, -1, -divisor):
                    self.check_bad_row(((word, divisor, rest), NONE))

    def test_both_numbers_of_a_rest_wrong(self):
        for word in ("rest", "chance"):
            for divisor, rest in ((None, None), (0, 0), (1, 0), (100, 100), ("3", "1"), (True, False), ((), [])):
                self.check_bad_row(((word, divisor, rest), NONE))


class BadKnown(Case):
    def test_how_many_there_may_be(self):
        for many in range(1, 9):
            machine = by_test(("known", tuple(range(many))))
            self.assertEqual(answered(machine, many - 1), 1)
            self.assertIsNone(answered(machine, many))
        self.check_bad_row((("known", ()), NONE))
        for many in (9, 10, 50):
            self.check_bad_row((("known", tuple(range(many))), NONE))

    def test_what_does_not_rise(self):
        for numbers in (
            (2, 1), (9999, 0), (1, 2, 1), (1, 3, 2), (2, 1, 3), (3, 2, 1), (5, 6, 7, 8, 1, 2, 3, 4),
            (1, 2, 3, 4, 5, 6, 8, 7), (2, 1, 3, 4, 5, 6, 7, 8), (1, 2, 3, 5, 4, 6, 7, 8),
        ):
            self.check_bad_row((("known", numbers), NONE))

    def test_what_is_twice_the_same(self):
        for numbers in (
            (0, 0), (5, 5), (9999, 9999), (1, 1, 2), (1, 2, 2), (1, 2, 1), (3, 3, 3),
            (1, 2, 3, 4, 5, 6, 7, 7), (1, 1, 2, 3, 4, 5, 6, 7), (1, 2, 3, 4, 4, 5, 6, 7),
        ):
            self.check_bad_row((("known", numbers), NONE))

    def test_others_in_the_place_of_the_tuple(self):
        for other in (None, True, 5, "5", "3,17", [], [3], [3, 17], ((3,),), ((3, 17),), [(3, 17)]):
            self.check_bad_row((("known", other), NONE))

    def test_others_at_each_place(self):
        for other in OTHERS:
            for at in range(4):
                numbers = (10, 20, 30, 40)
                self.check_bad_row((("known", numbers[:at] + (other,) + numbers[at + 1:]), NONE))

    def test_just_outside_of_the_bounds(self):
        for numbers in ((-1,), (10000,), (-1, 5), (5, 10000), (-1, 10000), (1, 2, 3, 4, 5, 6, 7, 10000)):
            self.check_bad_row((("known", numbers), NONE))


class BadQuestionsAndSeeds(Case):
    def test_the_bounds_of_questions(self):
        machine = by_answer(("plus", 0))
        for question in (0, 1, 9998, 9999):
            self.assertEqual(answered(machine, question), question)
        for question in (-1, -2, 10000, 10001, -9999):
            self.check_refused(BadQuestion, machine, question, 0)

    def test_others_in_the_place_of_questions(self):
        for other in OTHERS:
            self.check_refused(BadQuestion, GOOD_ROWS, other, 0)
            self.check_refused(BadQuestion, by_answer(("num", 1)), other, 999)

    def test_the_bounds_of_seeds(self):
        machine = by_answer(("num", 3))
        for seed in (0, 1, 998, 999):
            self.assertEqual(answered(machine, 5, seed=seed), 3)
        for seed in (-1, -2, 1000, 1001, 9999):
            self.check_refused(BadSeed, machine, 5, seed)

    def test_others_in_the_place_of_seeds(self):
        for other in OTHERS:
            self.check_refused(BadSeed, GOOD_ROWS, 5, other)
            self.check_refused(BadSeed, by_answer(("num", 1)), 9999, other)

    def test_refused_also_where_nothing_looks_at_them(self):
        for test in (ANY, ("below", 0), ("known", (1,)), ("rest", 2, 1)):
            self.check_refused(BadQuestion, by_test(test), 10000, 0)
            self.check_refused(BadSeed, by_test(test), 0, 1000)

    def test_the_machine_is_refused_first(self):
        for machine, row in ((None, -1), ((), -1), ([], -1), ((None,), 0), (GOOD_ROWS * 2, 12)):
            for question in (-1, 10000, True, None, "5", (), []):
                for seed in (0, -1, 1000, True, None, "5", (), []):
                    self.check_bad_machine(machine, row, question, seed)
            for seed in (-1, 1000, False, None):
                self.check_bad_machine(machine, row, 5, seed)

    def test_the_question_is_refused_ahead_of_the_seed(self):
        for question in (-1, 10000, True, False, None, "5", (), []):
            for seed in (-1, 1000, True, False, None, "5", (), []):
                self.check_refused(BadQuestion, GOOD_ROWS, question, seed)


class Calls(Case):
    def test_a_seed_not_told_is_nought(self):
        for rest in range(10):
            machine = by_test(("chance", 10, rest))
            for question in QUESTIONS:
                due = 1 if 7 * question % 10 == rest else None
                self.assertEqual(answered(machine, question), due)
                self.assertEqual(answered(machine, question, seed=0), due)

    def test_a_seed_is_handed_in_by_its_name_alone(self):
        with self.assertRaises(TypeError):
            answered(GOOD_ROWS, 5, 0)
        with self.assertRaises(TypeError):
            answered(GOOD_ROWS, 5, 3)

    def test_asked_again_the_same_is_told(self):
        asked = [(q, s) for q in QUESTIONS for s in SEEDS]
        first = [answered(GOOD_ROWS, q, seed=s) for q, s in asked]
        for machine in (None, (None,)):
            self.check_bad_machine(machine, -1 if machine is None else 0)
        self.check_refused(BadSeed, GOOD_ROWS, 5, 1000)
        again = [answered(GOOD_ROWS, q, seed=s) for q, s in reversed(asked)]
        self.assertEqual(first, again[::-1])

    def test_refused_again_likewise(self):
        for _ in range(3):
            self.check_bad_machine(GOOD_ROWS[:2] + (None, [], None), 2)
            self.assertEqual(answered(GOOD_ROWS, 4), 1)
            self.check_refused(BadQuestion, GOOD_ROWS, 10000, 0)

    def test_one_machine_does_not_touch_another(self):
        one, other = by_answer(("num", 1)), by_answer(("num", 2))
        self.assertEqual([answered(m, 5) for m in (one, other, one, other)], [1, 2, 1, 2])

    def test_nothing_handed_in_is_changed(self):
        for machine in (
            GOOD_ROWS, list(GOOD_ROWS), [[["any"], ["num", 5]]], ([["any"], ["num", 5]],),
            ((["any"], ["num", 5]),), ((("known", [17, 3, 3]), NONE),), ((ANY, ["none"]),),
        ):
            for question, seed in ((5, 0), ([5, [6]], 0), (5, [7, [8]])):
                kept = copy.deepcopy((machine, question, seed))
                try:
                    answered(machine, question, seed=seed)
                except HallError:
                    pass
                self.assertEqual((machine, question, seed), kept)

    def test_a_list_that_was_refused_may_be_changed_later(self):
        numbers = [3, 17]
        machine = ((("known", numbers), ("num", 1)),)
        self.check_bad_machine(machine, 0)
        numbers.append(1)
        self.check_bad_machine(machine, 0)
        self.assertEqual(answered(((("known", (3, 17)), ("num", 1)),), 3), 1)


if __name__ == "__main__":
    unittest.main()
