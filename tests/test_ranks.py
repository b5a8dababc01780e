"""Tests of ranks, parted runs, and what changes: points [6] to [9]."""

import random
import unittest

from kit import DOUBLE, MACHINES, QUESTIONS, SILENT, TASKS, Slow, any_deed, deeds_of, do
from measurehall.halls import Hall, led


def triple(*scores):
    """Scores of one machine, of one run in each task."""
    return [[score] for score in scores]


class Case(unittest.TestCase):
    def check_state(self, hall, slow):
        self.assertEqual(hall.ranks(), slow.ranks())
        self.assertEqual(hall.parted(), slow.parted())
        self.assertEqual(hall.deeds(), slow.done)

    def pair(self, deeds):
        return led(deeds), Slow(deeds)

    def both(self, hall, slow, deed):
        """Do a deed in both halls; it tells the same, and they are alike behind."""
        before = {name: rank for rank, name, _ in hall.ranks()}
        got = do(hall, deed)
        self.assertEqual(got, slow.do(deed))
        self.check_state(hall, slow)
        if deed[0] in ("task", "machine", "strike", "clean"):
            now = {name: rank for rank, name, _ in hall.ranks()}
            names = sorted(set(before) | set(now))
            due = [(n, before.get(n), now.get(n)) for n in names if before.get(n) != now.get(n)]
            self.assertEqual(got, due)
        return got


class Ranks(Case):
    def test_no_tasks_no_machines_no_runs(self):
        hall = Hall()
        self.assertEqual(hall.ranks(), [])
        hall.machine("a", DOUBLE)
        self.assertEqual(hall.ranks(), [])
        hall.task("t", (QUESTIONS, 1))
        self.assertEqual(hall.ranks(), [])
        hall.tell("a", "t", 0, 0)
        self.assertEqual(hall.ranks(), [(1, "a", (0, 1))])

    def test_the_mean_of_the_runs(self):
        for scores, mean in (
            ([5], (5, 1)), ([0], (0, 1)), ([1, 2], (3, 2)), ([1, 1, 2], (4, 3)), ([1, 2, 3], (2, 1)),
            ([1, 0, 0, 0], (1, 4)), ([1, 0, 0, 0, 0], (1, 5)), ([16, 16, 16, 16, 15], (79, 5)),
            ([0, 0, 0, 0, 0], (0, 1)), ([16] * 5, (16, 1)), ([3, 3, 4, 4], (7, 2)),
        ):
            self.assertEqual(led(deeds_of((1,), [[scores]])).ranks(), [(1, "a", mean)])

    def test_the_weight(self):
        for weight in range(1, 10):
            hall = led(deeds_of((weight,), [[[1, 2]]]))
            self.assertEqual(hall.ranks(), [(1, "a", (3 * weight, 2) if weight % 2 else (3 * weight // 2, 1))])

    def test_the_sum_over_tasks(self):
        # 2 by 1/2, 3 by 4/3, 1 by 1/5: 1 and 4 and 1/5.
        hall = led(deeds_of((2, 3, 1), [[[1, 0], [1, 1, 2], [1, 0, 0, 0, 0]]]))
        self.assertEqual(hall.ranks(), [(1, "a", (26, 5))])
        # 1/3 and 1/4 and 1/5 come to 47/60.
        hall = led(deeds_of((1, 1, 1), [[[1, 0, 0], [1, 0, 0, 0], [1, 0, 0, 0, 0]]]))
        self.assertEqual(hall.ranks(), [(1, "a", (47, 60))])

    def test_the_greatest_mean(self):
        hall = led(deeds_of((9, 9, 9, 9), [[[16]] * 4, [[16] * 5] * 4]))
        self.assertEqual(hall.ranks(), [(1, "a", (576, 1)), (1, "b", (576, 1))])

    def test_ranked_by_a_run_in_each_task(self):
        hall = led(deeds_of((1, 1, 1), [triple(1, 2, 3), [[1], [], [3]], [[], [], []], [[1], [2], []], [[], [5], [5]]]))
        self.assertEqual(hall.ranks(), [(1, "a", (6, 1))])
        self.assertEqual(hall.tell("b", "tb", 0, 16), 9)
        self.assertEqual(hall.ranks(), [(1, "b", (20, 1)), (2, "a", (6, 1))])

    def test_means_that_are_alike(self):
        hall = led(deeds_of((1,), [[[3]], [[5]], [[3]], [[4, 6]], [[1]], [[1, 2, 0]]]))
        self.assertEqual(hall.ranks(), [
            (1, "b", (5, 1)), (1, "d", (5, 1)), (3, "a", (3, 1)), (3, "c", (3, 1)), (5, "e", (1, 1)), (5, "f", (1, 1)),
        ])

    def test_all_means_alike(self):
        hall = led(deeds_of((1, 2), [[[2], [2]], [[4], [1]], [[0], [3]], [[6], [0]], [[5, 3], [1, 1]], [[2, 2], [2]]]))
        self.assertEqual(hall.ranks(), [(1, name, (6, 1)) for name in MACHINES])

    def test_means_that_are_nearly_alike(self):
        # 5/3 is less than 7/4, which is less than 9/5.
        hall = led(deeds_of((1,), [[[1, 2, 2]], [[1, 2, 2, 2]], [[1, 2, 2, 2, 2]]]))
        self.assertEqual(hall.ranks(), [(1, "c", (9, 5)), (2, "b", (7, 4)), (3, "a", (5, 3))])

    def test_names_rise_whenever_they_were_told(self):
        names = ("zb", "a", "za", "z", "b", "ab")
        hall = Hall()
        hall.task("t", (QUESTIONS, 1))
        for name in names:
            hall.machine(name, DOUBLE)
        for seed, name in enumerate(reversed(names)):
            hall.tell(name, "t", seed, 3)
        self.assertEqual(hall.ranks(), [(1, name, (3, 1)) for name in sorted(names)])
        self.assertEqual(hall.task("u", (QUESTIONS, 1)), [(name, 1, None) for name in sorted(names)])

    def test_runs_of_different_numbers_and_seeds(self):
        hall = led(deeds_of((1, 2), [[[3, 4], [5]], [[7], [1, 2, 3]]]))
        self.assertEqual(hall.ranks(), [(1, "a", (27, 2)), (2, "b", (11, 1))])

    def test_told_scores_count_whatever_a_run_comes_to(self):
        hall = Hall()
        hall.task("t", (QUESTIONS, 1))
        hall.machine("right", DOUBLE)
        hall.machine("wrong", SILENT)
        hall.tell("right", "t", 0, 2)
        hall.tell("wrong", "t", 0, 14)
        self.assertEqual(hall.ranks(), [(1, "wrong", (14, 1)), (2, "right", (2, 1))])

    def test_kinds(self):
        ranks = led(deeds_of((1,), [[[3]], [[1, 2]]])).ranks()
        self.assertIs(type(ranks), list)
        for row in ranks:
            self.assertEqual([type(part) for part in row], [int, str, tuple])
            self.assertIs(type(row), tuple)
            self.assertEqual([type(part) for part in row[2]], [int, int])


class Parted(Case):
    def hall(self):
        """Runs told right and wrong, of a machine that answers by the seed."""
        even = ((("chance", 2, 0), ("times", 2)),)
        hall = Hall()
        hall.task("t", (QUESTIONS[:5], 1))
        hall.machine("double", DOUBLE)
        hall.machine("even", even)
        hall.machine("silent", SILENT)
        # Of five questions even answers by an even seed three right, two by an odd one.
        for seed, score in ((0, 3), (1, 2), (2, 2), (3, 3), (4, 0)):
            hall.tell("even", "t", seed, score)
        for seed, score in ((0, 5), (1, 4), (2, 0)):
            hall.tell("double", "t", seed, score)
        for seed, score in ((0, 0), (1, 1)):
            hall.tell("silent", "t", seed, score)
        return hall

    def test_parted(self):
        hall = self.hall()
        self.assertEqual(
            hall.parted(), [(2, 2, 3), (3, 3, 2), (4, 0, 3), (6, 4, 5), (7, 0, 5), (9, 1, 0)]
        )

    def test_none(self):
        self.assertEqual(Hall().parted(), [])
        hall = Hall()
        hall.task("t", (QUESTIONS[:5], 1))
        hall.machine("a", DOUBLE)
        hall.tell("a", "t", 0, 5)
        self.assertEqual(hall.parted(), [])

    def test_struck_runs_are_not_parted(self):
        hall = self.hall()
        hall.strike(3)
        hall.strike(9)
        hall.strike(0)
        self.assertEqual(hall.parted(), [(2, 2, 3), (4, 0, 3), (6, 4, 5), (7, 0, 5)])

    def test_clean(self):
        hall = self.hall()
        # Means ahead: even 2, double 3, silent 1/2; behind: 5/2, 5, 0.
        self.assertEqual(hall.ranks(), [(1, "double", (3, 1)), (2, "even", (2, 1)), (3, "silent", (1, 2))])
        self.assertEqual(hall.clean(), [])
        self.assertEqual(hall.ranks(), [(1, "double", (5, 1)), (2, "even", (5, 2)), (3, "silent", (0, 1))])
        self.assertEqual(hall.parted(), [])
        self.assertEqual(hall.clean(), [])

    def test_clean_tells_what_changes(self):
        hall = Hall()
        hall.task("t", (QUESTIONS[:5], 1))
        for name in ("za", "a", "m"):
            hall.machine(name, DOUBLE)
        hall.machine("none", SILENT)
        hall.tell("za", "t", 0, 5)
        hall.tell("a", "t", 0, 4)
        hall.tell("m", "t", 0, 5)
        hall.tell("m", "t", 1, 2)
        hall.tell("none", "t", 0, 0)
        self.assertEqual([row[:2] for row in hall.ranks()], [(1, "za"), (2, "a"), (3, "m"), (4, "none")])
        self.assertEqual(hall.clean(), [("a", 2, None), ("m", 3, 1), ("none", 4, 3)])
        self.assertEqual([row[:2] for row in hall.ranks()], [(1, "m"), (1, "za"), (3, "none")])

    def test_clean_leaves_those_told_right(self):
        hall = self.hall()
        hall.clean()
        for number in (0, 1, 5, 8):
            hall.strike(number)
        self.assertEqual(hall.ranks(), [])

    def test_parted_asks_the_machine_and_the_task_as_they_are(self):
        hall = self.hall()
        hall.task("t", (QUESTIONS[:2], 1))
        self.assertEqual(hall.parted(), [])
        hall.tell("double", "t", 9, 1)
        self.assertEqual(hall.parted(), [(10, 1, 2)])
        hall.task("t", ((QUESTIONS[3], (2, 5, None)), 1))
        self.assertEqual(hall.parted(), [])
        hall.tell("double", "t", 10, 2)
        self.assertEqual(hall.parted(), [(11, 2, 1)])

    def test_kinds(self):
        for row in self.hall().parted():
            self.assertIs(type(row), tuple)
            self.assertEqual([type(part) for part in row], [int, int, int])


class Mended(Case):
    def test_a_task_in_the_place_of_another(self):
        hall = Hall()
        hall.task("t", (QUESTIONS[:5], 1))
        hall.machine("double", DOUBLE)
        hall.machine("silent", SILENT)
        hall.tell("double", "t", 0, 5)
        hall.tell("silent", "t", 0, 0)
        # What was due was wrong.
        mended = (tuple((q, 2 * q + 1, None) for q in range(4)) + ((4, 8, None),), 3)
        self.assertEqual(hall.task("t", mended), [])
        self.assertEqual(hall.ranks(), [(1, "double", (3, 1)), (2, "silent", (0, 1))])
        none_right = (tuple((q, 2 * q + 1, None) for q in range(4)), 3)
        self.assertEqual(hall.task("t", none_right), [("silent", 2, 1)])
        self.assertEqual(hall.ranks(), [(1, "double", (0, 1)), (1, "silent", (0, 1))])
        self.assertEqual(hall.task("t", (QUESTIONS[:5], 2)), [("silent", 1, 2)])
        self.assertEqual(hall.ranks(), [(1, "double", (10, 1)), (2, "silent", (0, 1))])

    def test_the_same_again_scores_anew(self):
        task = (QUESTIONS[:5], 1)
        hall = Hall()
        hall.task("t", task)
        hall.machine("double", DOUBLE)
        hall.machine("silent", SILENT)
        hall.tell("double", "t", 0, 1)
        hall.tell("silent", "t", 0, 4)
        self.assertEqual(hall.parted(), [(0, 1, 5), (1, 4, 0)])
        self.assertEqual(hall.task("t", task), [("double", 2, 1), ("silent", 1, 2)])
        self.assertEqual(hall.parted(), [])
        self.assertEqual(hall.task("t", task), [])
        self.assertEqual(hall.deeds()[-2:], [("task", "t", task)] * 2)

    def test_runs_of_other_tasks_stay_as_they_were_told(self):
        hall = led(deeds_of((1, 1), [triple(3, 4), triple(5, 1)]))
        self.assertEqual(hall.parted(), [(0, 3, 16), (1, 4, 16), (2, 5, 16), (3, 1, 16)])
        hall.task("ta", (QUESTIONS[:7], 1))
        self.assertEqual(hall.parted(), [(1, 4, 16), (3, 1, 16)])
        self.assertEqual(hall.ranks(), [(1, "a", (11, 1)), (2, "b", (8, 1))])
        hall.task("tc", (QUESTIONS[:7], 1))
        self.assertEqual(hall.parted(), [(1, 4, 16), (3, 1, 16)])

    def test_struck_runs_come_no_more(self):
        hall = led(deeds_of((1,), [[[3, 5]], [[4]]]))
        hall.strike(0)
        hall.task("ta", (QUESTIONS[:7], 1))
        self.assertEqual(hall.ranks(), [(1, "a", (7, 1)), (1, "b", (7, 1))])
        self.assertEqual(hall.spread("a"), [(7, 1)])
        hall.strike(1)
        hall.task("ta", (QUESTIONS, 1))
        self.assertEqual(hall.ranks(), [(1, "b", (16, 1))])

    def test_the_seed_of_each_run_counts(self):
        even = ((("chance", 2, 0), ("times", 2)),)
        hall = Hall()
        hall.task("t", (QUESTIONS[:5], 1))
        hall.machine("even", even)
        for seed in range(5):
            hall.tell("even", "t", seed, 0)
        hall.task("t", (QUESTIONS[:5], 1))
        self.assertEqual(hall.spread("even"), [(2, 2), (3, 3)])


class Changes(Case):
    def test_a_task_more_makes_all_unranked(self):
        hall = led(deeds_of((1,), [[[3]], [[5]], [[3]], [[]]]))
        self.assertEqual(hall.task("new", (QUESTIONS, 1)), [("a", 2, None), ("b", 1, None), ("c", 2, None)])
        self.assertEqual(hall.ranks(), [])
        hall.tell("c", "new", 0, 0)
        self.assertEqual(hall.ranks(), [(1, "c", (3, 1))])
        self.assertEqual(hall.task("newer", (QUESTIONS, 1)), [("c", 1, None)])

    def test_a_machine_more_tells_none(self):
        hall = led(deeds_of((1,), [[[3]], [[5]]]))
        before = hall.ranks()
        self.assertEqual(hall.machine("z", DOUBLE), [])
        self.assertEqual(hall.ranks(), before)

    def test_strike(self):
        hall = led(deeds_of((1,), [[[3]], [[5, 1]], [[3]], [[2]]]))
        # Means 3, 3, 3, 2.
        self.assertEqual(hall.strike(1), [("b", 1, 4), ("d", 4, 3)])
        self.assertEqual(hall.strike(2), [("b", 4, None)])
        self.assertEqual(hall.strike(0), [("a", 1, None), ("d", 3, 2)])
        self.assertEqual(hall.ranks(), [(1, "c", (3, 1)), (2, "d", (2, 1))])

    def test_strike_of_one_that_is_not_ranked(self):
        hall = led(deeds_of((1, 1), [triple(3, 3), [[4, 5], []]]))
        self.assertEqual(hall.strike(2), [])
        self.assertEqual(hall.strike(0), [("a", 1, None)])

    def test_a_mean_that_changes_without_a_rank_is_not_told(self):
        hall = led(deeds_of((1,), [[[9, 7]], [[1]]]))
        self.assertEqual(hall.strike(0), [])
        self.assertEqual(hall.ranks(), [(1, "a", (7, 1)), (2, "b", (1, 1))])

    def test_a_weight_that_changes(self):
        hall = led(deeds_of((1, 1), [triple(16, 0), triple(0, 16)]))
        hall.task("tb", (QUESTIONS[:1] + ((3, 7, None),), 1))
        self.assertEqual(hall.ranks(), [(1, "a", (17, 1)), (2, "b", (1, 1))])

    def test_kinds(self):
        hall = led(deeds_of((1,), [[[3]], [[5]]]))
        told = hall.strike(1)
        self.assertEqual(told, [("a", 2, 1), ("b", 1, None)])
        self.assertIs(type(told), list)
        for row in told:
            self.assertIs(type(row), tuple)

    def test_by_chance_against_the_slow_hall(self):
        words = []
        for number in range(60):
            chance = random.Random(number)
            hall, slow = Hall(), Slow()
            for _ in range(60):
                deed = any_deed(slow, chance)
                got = self.both(hall, slow, deed)
                words.append((deed[0], bool(got)))
        for word in ("task", "strike", "clean"):
            self.assertGreater(words.count((word, True)), 20, word)
        self.assertNotIn(("machine", True), words)

    def test_each_sort_of_deed(self):
        deeds = deeds_of((1, 2), [triple(3, 4), triple(16, 16), triple(4, 16)])
        for deed in (
            ("task", TASKS[2], (QUESTIONS, 1)), ("task", TASKS[0], (QUESTIONS[:3], 9)),
            ("task", TASKS[0], (QUESTIONS, 1)), ("machine", "z", SILENT), ("strike", 0), ("strike", 5),
            ("clean",), ("tell", "a", "ta", 9, 16), ("publish",),
        ):
            hall, slow = self.pair(deeds)
            self.check_state(hall, slow)
            self.both(hall, slow, deed)


if __name__ == "__main__":
    unittest.main()
