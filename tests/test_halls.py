"""Tests of what is told to a hall, and of what it refuses: points [1], [2], [6]."""

import copy
import unittest

from kit import DOUBLE, MACHINES, MOODY, NOT_NAMES, OTHERS, QUESTIONS, SILENT, TASKS, deeds_of, told
from measurehall.errors import (
    BadMachine, BadName, BadScore, BadSeed, BadShare, BadTask, HallError, NoMachine, NoPage, NoRun, NoTask,
    NotAhead, NotRanked, Taken, TooMany,
)
from measurehall.halls import Hall, led

TASK = (QUESTIONS[:5], 2)
NO_TASKS = (
    (None, -1), ((), -1), ([QUESTIONS[:5], 2], -1), ((QUESTIONS[:5], 0), -1), ((QUESTIONS[:5], 10), -1),
    ((QUESTIONS[:5], True), -1), (((), 2), -1), ((list(QUESTIONS[:5]), 2), -1), (((None,), 2), 0),
    ((QUESTIONS[:2] + (QUESTIONS[0],), 2), 2), ((QUESTIONS + ((99, 5, None),), 2), 16), ("task", -1),
)
NO_MACHINES = (
    (None, -1), ((), -1), ([(("any",), ("none",))], -1), ("any none", -1), (((),), 0), (DOUBLE + (None,), 1),
    (DOUBLE * 13, 12), (((("any",), ("num", 10000)),), 0), (True, -1), (5, -1),
)
NO_SEEDS = (-1, 1000, 10**30) + OTHERS


class Case(unittest.TestCase):
    def refuse(self, error, hall, ask, *args):
        """What is asked is refused, and changes nothing."""
        before = told(hall)
        with self.subTest(error=error.__name__, args=repr(args)[:200]):
            with self.assertRaises(HallError) as got:
                getattr(hall, ask)(*args)
            self.assertIs(type(got.exception), error)
            self.assertEqual(told(hall), before)
            return got.exception

    def refuse_number(self, error, number, hall, ask, *args):
        refused = self.refuse(error, hall, ask, *args)
        self.assertEqual(refused.row if error is BadMachine else refused.number, number)

    def hall(self):
        """A hall of two tasks and three machines, two of them ranked."""
        hall = Hall()
        hall.task("one", TASK)
        hall.task("two", (QUESTIONS[3:7], 1))
        hall.machine("good", DOUBLE)
        hall.machine("bad", SILENT)
        hall.machine("none", MOODY)
        for task in ("one", "two"):
            hall.tell("good", task, 0, 4)
            hall.tell("good", task, 1, 3)
            hall.tell("bad", task, 0, 1)
        hall.tell("none", "one", 5, 0)
        return hall


class Names(Case):
    def test_names_that_may_be(self):
        names = ("a", "z", "m", "ab", "az", "zz", "abc", "abcdef", "zzzzzz", "azazaz", "mnopqr", "aaaaaa")
        for name in names:
            hall = Hall()
            self.assertEqual(hall.task(name, TASK), [])
            self.assertEqual(hall.machine(name, DOUBLE), [])
            self.assertEqual(hall.tell(name, name, 0, 5), 0)
            self.assertEqual(hall.ranks(), [(1, name, (10, 1))])

    def test_each_letter(self):
        for letter in "abcdefghijklmnopqrstuvwxyz":
            for name in (letter, letter + "a", "a" + letter, "aaaaa" + letter, "aa" + letter + "aaa"):
                hall = Hall()
                hall.task(name, TASK)
                hall.machine(name, DOUBLE)

    def test_each_other_sign(self):
        hall = Hall()
        for sign in map(chr, list(range(97)) + list(range(123, 700))):
            for name in (sign, sign + "a", "a" + sign, "aa" + sign + "aa"):
                with self.assertRaises(BadName):
                    hall.task(name, TASK)
                with self.assertRaises(BadName):
                    hall.machine(name, DOUBLE)
        self.assertEqual(hall.deeds(), [])

    def test_what_is_no_name(self):
        hall = self.hall()
        for name in NOT_NAMES + OTHERS:
            self.refuse(BadName, hall, "task", name, TASK)
            self.refuse(BadName, hall, "machine", name, DOUBLE)

    def test_a_name_is_refused_ahead_of_what_stands_behind(self):
        hall = self.hall()
        for name in NOT_NAMES:
            for task, _ in NO_TASKS[:4]:
                self.refuse(BadName, hall, "task", name, task)
            for machine, _ in NO_MACHINES[:4]:
                self.refuse(BadName, hall, "machine", name, machine)

    def test_a_task_and_a_machine_of_one_name(self):
        hall = Hall()
        hall.task("same", TASK)
        hall.machine("same", DOUBLE)
        self.refuse(NoMachine, hall, "tell", "other", "same", 0, 0)
        self.assertEqual(hall.tell("same", "same", 0, 0), 0)


class Tasks(Case):
    def test_what_is_no_task(self):
        for hall in (Hall(), self.hall()):
            for task, number in NO_TASKS:
                self.refuse_number(BadTask, number, hall, "task", "one", task)
                self.refuse_number(BadTask, number, hall, "task", "new", task)
            for other in OTHERS:
                self.refuse_number(BadTask, -1, hall, "task", "one", other)

    def test_four_tasks_and_a_fifth(self):
        hall = Hall()
        for at, name in enumerate(TASKS):
            self.assertEqual(hall.task(name, TASK), [])
            self.assertEqual(len(hall.deeds()), at + 1)
        for name in ("te", "a", "zzz"):
            self.refuse(TooMany, hall, "task", name, TASK)

    def test_no_fifth_name_and_no_fifth_task(self):
        hall = led(deeds_of((1, 2, 3, 4), ()))
        for task, number in NO_TASKS:
            self.refuse_number(BadTask, number, hall, "task", "te", task)
        for name in NOT_NAMES:
            self.refuse(BadName, hall, "task", name, TASK)

    def test_another_one_in_the_place_in_a_full_hall(self):
        hall = led(deeds_of((1, 2, 3, 4), ()))
        for name in TASKS:
            self.assertEqual(hall.task(name, TASK), [])
        self.refuse(TooMany, hall, "task", "te", TASK)

    def test_a_task_tells_its_questions_to_tell(self):
        hall = self.hall()
        hall.task("one", (QUESTIONS[:1], 1))
        self.refuse(BadScore, hall, "tell", "good", "one", 9, 2)
        hall.task("one", (QUESTIONS, 1))
        self.assertEqual(hall.tell("good", "one", 9, 16), 7)


class Machines(Case):
    def test_what_is_no_machine(self):
        for hall in (Hall(), self.hall()):
            for machine, row in NO_MACHINES:
                self.refuse_number(BadMachine, row, hall, "machine", "new", machine)
                self.refuse_number(BadMachine, row, hall, "machine", "good", machine)
            for other in OTHERS:
                if other != () and isinstance(other, tuple):
                    self.refuse_number(BadMachine, 0, hall, "machine", "new", other)
                else:
                    self.refuse_number(BadMachine, -1, hall, "machine", "new", other)

    def test_one_that_there_is(self):
        hall = self.hall()
        for name in ("good", "bad", "none"):
            for machine in (DOUBLE, SILENT, MOODY):
                self.refuse(Taken, hall, "machine", name, machine)

    def test_six_machines_and_a_seventh(self):
        hall = Hall()
        for name in MACHINES:
            self.assertEqual(hall.machine(name, DOUBLE), [])
        for name in ("g", "zz", "ta"):
            self.refuse(TooMany, hall, "machine", name, DOUBLE)
            for machine, row in NO_MACHINES:
                self.refuse_number(BadMachine, row, hall, "machine", name, machine)

    def test_taken_ahead_of_too_many(self):
        hall = Hall()
        for name in MACHINES:
            hall.machine(name, DOUBLE)
        for name in MACHINES:
            self.refuse(Taken, hall, "machine", name, SILENT)

    def test_names_of_tasks_are_free(self):
        hall = led(deeds_of((1, 2, 3, 4), ()))
        for name in TASKS:
            self.assertEqual(hall.machine(name, DOUBLE), [])


class Tell(Case):
    def test_numbers_rise_from_nought(self):
        hall = Hall()
        hall.task("t", TASK)
        hall.task("u", TASK)
        for name in ("a", "b"):
            hall.machine(name, DOUBLE)
        numbers = [
            hall.tell(name, task, seed, 0) for seed in (7, 3, 999, 0, 5) for task in "tu" for name in "ab"
        ]
        self.assertEqual(numbers, list(range(20)))
        self.assertEqual([type(number) for number in numbers], [int] * 20)

    def test_numbers_rise_behind_strike_and_refusals(self):
        hall = self.hall()
        self.refuse(BadScore, hall, "tell", "good", "one", 9, 6)
        self.assertEqual(hall.tell("good", "one", 9, 5), 7)
        hall.strike(7)
        hall.strike(0)
        self.assertEqual(hall.tell("good", "one", 9, 5), 8)
        hall.clean()
        self.assertEqual(hall.tell("good", "one", 0, 5), 9)

    def test_no_machine(self):
        hall = self.hall()
        for name in NOT_NAMES + OTHERS + ("one", "two", "goods", "goo"):
            self.refuse(NoMachine, hall, "tell", name, "one", 9, 0)
        self.refuse(NoMachine, Hall(), "tell", "a", "a", 0, 0)

    def test_no_task(self):
        hall = self.hall()
        for name in NOT_NAMES + OTHERS + ("good", "bad", "ones", "on"):
            self.refuse(NoTask, hall, "tell", "good", name, 9, 0)

    def test_seeds(self):
        hall = self.hall()
        for seed in NO_SEEDS:
            self.refuse(BadSeed, hall, "tell", "good", "one", seed, 0)
        for seed in (2, 998, 999):
            hall.tell("good", "one", seed, 0)

    def test_scores(self):
        for many in (1, 2, 5, 15, 16):
            hall = Hall()
            hall.task("t", (QUESTIONS[:many], 9))
            hall.machine("a", SILENT)
            for score in OTHERS + (-1, -2, many + 1, many + 2, 17, 100):
                self.refuse(BadScore, hall, "tell", "a", "t", 0, score)
            self.assertEqual(hall.tell("a", "t", 0, many), 0)
            self.assertEqual(hall.tell("a", "t", 1, 0), 1)
            self.assertEqual(hall.tell("a", "t", 2, 1), 2)
            self.assertEqual(hall.parted(), [(0, many, 0), (2, 1, 0)])

    def test_taken(self):
        hall = self.hall()
        for score in range(6):
            self.refuse(Taken, hall, "tell", "good", "one", 0, score)
            self.refuse(Taken, hall, "tell", "good", "one", 1, score)
            self.refuse(Taken, hall, "tell", "bad", "one", 0, score)
            self.refuse(Taken, hall, "tell", "none", "one", 5, score)
        # Another seed, another machine or another task is free.
        self.assertEqual(hall.tell("bad", "one", 1, 0), 7)
        self.assertEqual(hall.tell("none", "one", 0, 0), 8)
        self.assertEqual(hall.tell("none", "two", 5, 0), 9)

    def test_taken_no_more_behind_strike(self):
        hall = self.hall()
        hall.strike(0)
        self.assertEqual(hall.tell("good", "one", 0, 2), 7)
        self.refuse(Taken, hall, "tell", "good", "one", 0, 2)
        self.refuse(NoRun, hall, "strike", 0)

    def test_a_sixth(self):
        hall = self.hall()
        for seed in (20, 21, 22):
            hall.tell("good", "one", seed, 0)
        for seed in (23, 999, 2):
            self.refuse(TooMany, hall, "tell", "good", "one", seed, 0)
        # Others have room.
        hall.tell("good", "two", 23, 0)
        hall.tell("bad", "one", 23, 0)

    def test_taken_ahead_of_too_many(self):
        hall = self.hall()
        for seed in (20, 21, 22):
            hall.tell("good", "one", seed, 0)
        for seed in (0, 1, 20, 21, 22):
            self.refuse(Taken, hall, "tell", "good", "one", seed, 0)

    def test_room_again_behind_strike_and_clean(self):
        hall = self.hall()
        numbers = [hall.tell("good", "one", seed, 0) for seed in (20, 21, 22)]
        hall.strike(numbers[1])
        self.assertEqual(hall.tell("good", "one", 23, 0), 10)
        self.refuse(TooMany, hall, "tell", "good", "one", 24, 0)
        hall.clean()
        for seed in (20, 21, 22, 23, 24):
            hall.tell("good", "one", seed, 5)
        self.refuse(TooMany, hall, "tell", "good", "one", 25, 0)

    def test_the_order_of_refusals(self):
        hall = self.hall()
        for seed in (20, 21, 22):
            hall.tell("good", "one", seed, 0)
        nobody, nothing, no_seeds, no_scores = ("zz", None, []), ("zz", None, []), (-1, None, []), (6, None, [])
        for name in nobody:
            for task in nothing + ("one",):
                for seed in no_seeds + (0, 30):
                    for score in no_scores + (5,):
                        self.refuse(NoMachine, hall, "tell", name, task, seed, score)
        for task in nothing:
            for seed in no_seeds + (0, 30):
                for score in no_scores + (5,):
                    self.refuse(NoTask, hall, "tell", "good", task, seed, score)
        for seed in no_seeds:
            for score in no_scores + (5,):
                self.refuse(BadSeed, hall, "tell", "good", "one", seed, score)
        for seed in (0, 20, 30):
            for score in no_scores:
                self.refuse(BadScore, hall, "tell", "good", "one", seed, score)

    def test_what_is_handed_in_by_its_place(self):
        hall = self.hall()
        self.assertEqual(hall.tell("none", "two", 999, 4), 7)
        self.assertEqual(hall.deeds()[-1], ("tell", "none", "two", 999, 4))


class Strike(Case):
    def test_no_run(self):
        for hall, many in ((Hall(), 0), (self.hall(), 7)):
            for number in OTHERS + (-1, -2, -7, many, many + 1, 10**30):
                self.refuse(NoRun, hall, "strike", number)

    def test_true_is_not_one(self):
        hall = self.hall()
        for number in (True, False):
            self.refuse(NoRun, hall, "strike", number)
        hall.strike(0)
        hall.strike(1)

    def test_one_that_does_not_count(self):
        hall = self.hall()
        for number in range(7):
            hall.strike(number)
            for other in range(number + 1):
                self.refuse(NoRun, hall, "strike", other)
        hall.tell("good", "one", 0, 4)
        self.refuse(NoRun, hall, "strike", 0)
        hall.strike(7)

    def test_one_that_was_cleaned(self):
        hall = self.hall()
        gone = [number for number, _, _ in hall.parted()]
        self.assertTrue(gone)
        hall.clean()
        for number in gone:
            self.refuse(NoRun, hall, "strike", number)


class Asked(Case):
    def test_no_machine(self):
        for hall in (Hall(), self.hall()):
            for name in NOT_NAMES + OTHERS + ("one", "zz"):
                for ask in ("spread", "shares", "holds"):
                    self.refuse(NoMachine, hall, ask, name)
                for ask in ("ahead", "turned"):
                    self.refuse(NoMachine, hall, ask, name, "good")
                    self.refuse(NoMachine, hall, ask, name, name)

    def test_no_other_machine(self):
        hall = self.hall()
        for name in NOT_NAMES + OTHERS + ("one", "zz"):
            for ask in ("ahead", "turned"):
                self.refuse(NoMachine, hall, ask, "good", name)

    def test_not_ranked(self):
        hall = self.hall()
        for ask in ("spread", "shares", "holds"):
            self.refuse(NotRanked, hall, ask, "none")
        for ask in ("ahead", "turned"):
            self.refuse(NotRanked, hall, ask, "none", "good")
            self.refuse(NotRanked, hall, ask, "none", "none")
            self.refuse(NotRanked, hall, ask, "good", "none")

    def test_what_is_handed_in_first_is_refused_first(self):
        hall = self.hall()
        for ask in ("ahead", "turned"):
            for nobody in ("zz", None, [], True, 5):
                self.refuse(NotRanked, hall, ask, "none", nobody)
                self.refuse(NoMachine, hall, ask, nobody, "none")

    def test_not_ahead(self):
        hall = self.hall()
        self.refuse(NotAhead, hall, "turned", "bad", "good")
        self.refuse(NotAhead, hall, "turned", "good", "good")
        self.refuse(NotAhead, hall, "turned", "bad", "bad")
        self.assertEqual(type(hall.turned("good", "bad")), tuple)

    def test_no_tasks_and_no_runs(self):
        hall = Hall()
        hall.machine("a", DOUBLE)
        self.assertEqual(hall.ranks(), [])
        for ask in ("spread", "shares", "holds"):
            self.refuse(NotRanked, hall, ask, "a")
        hall.task("t", TASK)
        self.assertEqual(hall.ranks(), [])
        self.refuse(NotRanked, hall, "spread", "a")
        self.refuse(NotRanked, hall, "ahead", "a", "a")
        self.refuse(NotRanked, hall, "turned", "a", "a")

    def test_no_share(self):
        for hall in (Hall(), self.hall()):
            for share in OTHERS + (
                (0, 0), (1, 0), (1, -1), (0, -1), (-1, 2), (-1, -2), (3, 2), (2, 1), (0, 1001), (1, 1001),
                (1001, 1001), (1000, 1001), (True, 1), (1, True), (False, 1), (1, 2, 3), (1,), [1, 2], "12", (1, None),
                (None, 1), ("1", "2"), ("1", 2), (1, "2"), ((1, 2),), ((1,), 2), (1, (2,)), (1, [2]), (10**30, 10**31),
                (None, None), 1, 0,
            ):
                self.refuse(BadShare, hall, "sure", share)
            for share in ((0, 1), (1, 1), (0, 1000), (1000, 1000), (2, 4), (999, 1000), (1, 1000)):
                self.assertIs(type(hall.sure(share)), list)

    def test_no_page(self):
        for pages in (0, 1, 3):
            hall = self.hall()
            for _ in range(pages):
                hall.publish()
            for number in OTHERS + (-1, -2, -3, pages, pages + 1, 10**30):
                self.refuse(NoPage, hall, "page", number)
                self.refuse(NoPage, hall, "stale", number)
            for number in range(pages):
                hall.page(number)
                hall.stale(number)


class Apart(Case):
    def test_two_halls_have_nothing_in_common(self):
        one, other = self.hall(), Hall()
        self.assertEqual(told(other), ([], [], [], [], False, [], []))
        before = told(one)
        other.machine("good", SILENT)
        other.task("one", (QUESTIONS[:1], 9))
        self.assertEqual(other.tell("good", "one", 0, 1), 0)
        other.publish()
        other.clean()
        self.assertEqual(told(one), before)
        third = Hall()
        self.assertEqual(told(third), ([], [], [], [], False, [], []))

    def test_nothing_handed_in_is_changed(self):
        hall = self.hall()
        for ask, args in (
            ("task", ("one", [list(QUESTIONS), 1])), ("task", (["x"], TASK)), ("machine", ("new", [DOUBLE])),
            ("tell", (["good"], "one", 9, 0)), ("tell", ("good", ["one"], [9], [0])), ("strike", ([1],)),
            ("sure", ([1, 2],)), ("page", ([0],)), ("spread", (["good"],)), ("ahead", ("good", ["bad"])),
        ):
            kept = copy.deepcopy(args)
            with self.assertRaises(HallError):
                getattr(hall, ask)(*args)
            self.assertEqual(args, kept)


if __name__ == "__main__":
    unittest.main()
