"""Tests of redraws and of runs that turn ranks: points [10] to [12]."""

import random
import time
import unittest
from fractions import Fraction

from kit import MACHINES, QUESTIONS, Slow, deeds_of, pair
from measurehall.halls import Hall, led

SHARES = ((0, 1), (1, 1), (1, 2), (2, 4), (1, 3), (2, 3), (9, 10), (1, 1000), (999, 1000), (0, 1000), (1000, 1000))


def by_chance(chance, machines, tasks, runs, scores=(0, 16)):
    """Deeds of that many machines and tasks, with one to that many runs of each."""
    return deeds_of(
        [chance.randint(1, 9) for _ in range(tasks)],
        [
            [[chance.randint(*scores) for _ in range(chance.randint(1, runs))] for _ in range(tasks)]
            for _ in range(machines)
        ],
    )


def same_runs(chance, machines, tasks, runs, scores=(0, 16)):
    """Deeds of that many machines and tasks, with just that many runs of each."""
    return deeds_of(
        [chance.randint(1, 9) for _ in range(tasks)],
        [[[chance.randint(*scores) for _ in range(runs)] for _ in range(tasks)] for _ in range(machines)],
    )


class Case(unittest.TestCase):
    def check_share(self, share):
        self.assertIs(type(share), tuple)
        self.assertEqual([type(part) for part in share], [int, int])
        self.assertGreaterEqual(share[1], 1)
        self.assertEqual(share, pair(Fraction(*share)))

    def check_redraws(self, deeds):
        """All shares against all redraws laid out one by one."""
        hall, slow = led(deeds), Slow(deeds)
        places, ahead, many = slow.redrawn()
        ranks = slow.rank_of()
        for name in ranks:
            self.assertEqual(hall.spread(name), slow.spread(name))
            due = [pair(Fraction(one, many)) for one in places[name]]
            self.assertEqual(hall.shares(name), due)
            self.assertEqual(sum(Fraction(*share) for share in hall.shares(name)), 1)
            due = pair(Fraction(sum(places[name][:ranks[name]]), many))
            self.assertEqual(hall.holds(name), due)
            for share in hall.shares(name) + [hall.holds(name)]:
                self.check_share(share)
            for other in ranks:
                due = tuple(pair(Fraction(one, many)) for one in ahead[name, other])
                self.assertEqual(hall.ahead(name, other), due)
        self.check_sure(hall, places, many)

    def check_sure(self, hall, places, many):
        shares = list(SHARES)
        # Also just those that come, and those just beside them.
        for name in places:
            for at in range(len(places[name])):
                over, under = pair(Fraction(sum(places[name][:at + 1]), many))
                shares.extend((one, under) for one in (over - 1, over, over + 1) if 0 <= one <= under <= 1000)
        for share in shares:
            due = []
            for name in sorted(places):
                place = 1
                while Fraction(sum(places[name][:place]), many) < Fraction(*share):
                    place += 1
                due.append((name, place))
            self.assertEqual(hall.sure(share), due, share)


class Redraws(Case):
    def test_one_machine(self):
        hall = led(deeds_of((3,), [[[5, 7]]]))
        self.assertEqual(hall.spread("a"), [(15, 1), (21, 1)])
        self.assertEqual(hall.shares("a"), [(1, 1)])
        self.assertEqual(hall.holds("a"), (1, 1))
        self.assertEqual(hall.ahead("a", "a"), ((0, 1), (1, 1), (0, 1)))
        self.assertEqual(hall.sure((1, 1)), [("a", 1)])

    def test_told_out(self):
        # Totals: a has 4 or 6, b has 5, c has 1, 1 or 9.
        hall = led(deeds_of((1,), [[[6, 4]], [[5]], [[1, 9, 1]]]))
        self.assertEqual(hall.spread("c"), [(1, 2), (9, 1)])
        self.assertEqual(hall.shares("a"), [(1, 3), (1, 2), (1, 6)])
        self.assertEqual(hall.shares("b"), [(1, 3), (1, 2), (1, 6)])
        self.assertEqual(hall.shares("c"), [(1, 3), (0, 1), (2, 3)])
        self.assertEqual([row[:2] for row in hall.ranks()], [(1, "a"), (1, "b"), (3, "c")])
        self.assertEqual([hall.holds(name) for name in "abc"], [(1, 3), (1, 3), (1, 1)])
        self.assertEqual(hall.ahead("a", "b"), ((1, 2), (0, 1), (1, 2)))
        self.assertEqual(hall.ahead("c", "a"), ((1, 3), (0, 1), (2, 3)))
        self.assertEqual(hall.sure((1, 3)), [("a", 1), ("b", 1), ("c", 1)])
        self.assertEqual(hall.sure((334, 1000)), [("a", 2), ("b", 2), ("c", 3)])
        self.assertEqual(hall.sure((5, 6)), [("a", 2), ("b", 2), ("c", 3)])
        self.assertEqual(hall.sure((1, 1)), [("a", 3), ("b", 3), ("c", 3)])
        self.assertEqual(hall.sure((0, 1)), [("a", 1), ("b", 1), ("c", 1)])

    def test_totals_that_are_the_same(self):
        hall = led(deeds_of((1,), [[[5]], [[5]], [[5, 5]]]))
        for name in "abc":
            self.assertEqual(hall.shares(name), [(1, 1), (0, 1), (0, 1)])
            self.assertEqual(hall.holds(name), (1, 1))
        self.assertEqual(hall.ahead("a", "c"), ((0, 1), (1, 1), (0, 1)))
        hall = led(deeds_of((1,), [[[5, 6]], [[5, 6]]]))
        self.assertEqual(hall.shares("a"), [(3, 4), (1, 4)])
        self.assertEqual(hall.ahead("a", "b"), ((1, 4), (1, 2), (1, 4)))
        self.assertEqual(hall.holds("a"), (3, 4))

    def test_a_machine_against_itself(self):
        hall = led(deeds_of((1, 2), [[[5, 6], [1, 9]], [[5, 6], [0]]]))
        self.assertEqual(hall.ahead("a", "a"), ((0, 1), (1, 1), (0, 1)))
        self.assertEqual(hall.ahead("b", "b"), ((0, 1), (1, 1), (0, 1)))

    def test_a_rank_that_holds_in_few_redraws(self):
        # One run of five makes the mean.
        hall = led(deeds_of((1,), [[[0, 0, 0, 0, 16]], [[3, 3, 3, 3, 3]]]))
        self.assertEqual(hall.ranks(), [(1, "a", (16, 5)), (2, "b", (3, 1))])
        self.assertEqual(hall.holds("a"), (1, 5))
        self.assertEqual(hall.holds("b"), (1, 1))
        self.assertEqual(hall.shares("b"), [(4, 5), (1, 5)])

    def test_those_not_ranked_take_no_part(self):
        hall = led(deeds_of((1, 1), [[[3], [4]], [[16], []], [[1], [1]]]))
        self.assertEqual(hall.shares("a"), [(1, 1), (0, 1)])
        self.assertEqual(hall.shares("c"), [(0, 1), (1, 1)])
        self.assertEqual(hall.sure((1, 2)), [("a", 1), ("c", 2)])

    def test_spread_with_runs_alike(self):
        hall = led(deeds_of((2, 3), [[[1, 1, 4], [2, 2]]]))
        self.assertEqual(hall.spread("a"), [(8, 4), (14, 2)])
        hall = led(deeds_of((3, 1), [[[1, 0], [3, 0]]]))
        self.assertEqual(hall.spread("a"), [(0, 1), (3, 2), (6, 1)])

    def test_spread_of_the_least_and_the_greatest(self):
        hall = led(deeds_of((9, 9, 9, 9), [[[16] * 5] * 4, [[0] * 5] * 4]))
        self.assertEqual(hall.spread("a"), [(576, 625)])
        self.assertEqual(hall.spread("b"), [(0, 625)])
        self.assertEqual(hall.ahead("a", "b"), ((1, 1), (0, 1), (0, 1)))

    def test_struck_runs_are_not_drawn(self):
        hall = led(deeds_of((1,), [[[5, 7, 9]], [[6]]]))
        hall.strike(2)
        self.assertEqual(hall.spread("a"), [(5, 1), (7, 1)])
        self.assertEqual(hall.shares("a"), [(1, 2), (1, 2)])

    def test_nothing_ranked(self):
        self.assertEqual(Hall().sure((1, 2)), [])
        self.assertEqual(led(deeds_of((1, 1), [[[5], []]])).sure((1, 2)), [])

    def test_sure_names_rise(self):
        hall = Hall()
        hall.task("t", (QUESTIONS, 1))
        for name in ("zz", "b", "a", "za"):
            hall.machine(name, ((("any",), ("none",)),))
            hall.tell(name, "t", 0, len(name))
        self.assertEqual(hall.sure((1, 2)), [("a", 3), ("b", 3), ("za", 1), ("zz", 1)])

    def test_sure_counts_exactly(self):
        # Of 625 redraws one, of the four runs with 0, has the other machine ahead.
        hall = led(deeds_of((1, 1, 1, 1), [[[5, 5, 5, 5, 0]] * 4, [[3], [0], [0], [0]]]))
        self.assertEqual(hall.shares("a"), [(624, 625), (1, 625)])
        self.assertEqual(hall.sure((998, 1000))[0], ("a", 1))
        self.assertEqual(hall.sure((624, 625))[0], ("a", 1))
        self.assertEqual(hall.sure((999, 1000))[0], ("a", 2))
        self.assertEqual(hall.shares("b"), [(1, 625), (624, 625)])
        self.assertEqual(hall.sure((1, 625))[1], ("b", 1))
        self.assertEqual(hall.sure((1, 624))[1], ("b", 2))
        self.assertEqual(hall.sure((1, 626))[1], ("b", 1))

    def test_against_all_redraws(self):
        chance = random.Random(10)
        shapes = (
            (2, 1, 5), (2, 2, 5), (2, 3, 3), (3, 1, 5), (3, 2, 3), (3, 3, 2), (4, 1, 5), (4, 2, 2),
            (5, 1, 4), (5, 2, 2),
        )
        for machines, tasks, runs in shapes:
            for scores in ((0, 16), (0, 2), (5, 9)):
                for _ in range(2):
                    self.check_redraws(by_chance(chance, machines, tasks, runs, scores))

    def test_against_all_redraws_with_as_many_runs(self):
        chance = random.Random(11)
        for machines, tasks, runs in (
            (2, 1, 1), (2, 1, 5), (2, 2, 4), (2, 3, 2), (2, 3, 4), (3, 1, 5), (3, 2, 2), (3, 2, 4),
            (3, 3, 2), (4, 1, 3), (4, 1, 5), (4, 2, 2), (4, 3, 1), (5, 1, 3), (5, 1, 5), (5, 2, 2), (5, 3, 1),
        ):
            self.check_redraws(same_runs(chance, machines, tasks, runs, (0, 3)))
            if runs < 4:
                self.check_redraws(same_runs(chance, machines, tasks, runs))

    def test_kinds(self):
        hall = led(deeds_of((1,), [[[5, 6]], [[5]]]))
        self.assertIs(type(hall.spread("a")), list)
        self.assertIs(type(hall.shares("a")), list)
        self.assertIs(type(hall.holds("a")), tuple)
        self.assertIs(type(hall.ahead("a", "b")), tuple)
        self.assertIs(type(hall.ahead("a", "a")), tuple)
        self.assertIs(type(hall.sure((1, 2))), list)
        for row in hall.spread("a") + hall.sure((1, 2)) + hall.shares("a"):
            self.assertIs(type(row), tuple)

    def test_asking_changes_nothing(self):
        hall = led(by_chance(random.Random(12), 4, 2, 3))

        def asked():
            return (
                [(hall.spread(n), hall.shares(n), hall.holds(n)) for n in "abcd"], hall.sure((1, 3)),
                [hall.ahead(n, m) for n in "abcd" for m in "abcd"], hall.ranks(), hall.parted(), hall.deeds(),
            )

        self.assertEqual(asked(), asked())


class Turned(Case):
    def check_turned(self, deeds):
        """For all that are ahead of others, against all sets of runs."""
        hall, slow = led(deeds), Slow(deeds)
        many = 0
        for one in slow.rank_of():
            for other in slow.rank_of():
                if slow.mean(one) > slow.mean(other):
                    fewest, sets = slow.fewest(one, other)
                    got = hall.turned(one, other)
                    self.assertIs(type(got), tuple)
                    self.assertEqual(len(got), fewest)
                    self.assertIn(got, sets)
                    self.assertEqual(got, hall.turned(one, other))
                    many += fewest > 1
        return many

    def test_told_out(self):
        hall = led(deeds_of((1,), [[[5, 9, 1]], [[4]]]))
        self.assertEqual(hall.turned("a", "b"), (1,))
        # Struck, it is so.
        hall.strike(1)
        self.assertEqual(hall.ranks(), [(1, "b", (4, 1)), (2, "a", (3, 1))])

    def test_a_mean_that_is_as_great_is_not_greater(self):
        hall = led(deeds_of((1,), [[[3, 5, 7]], [[4]]]))
        self.assertEqual(hall.turned("a", "b"), (2,))
        hall = led(deeds_of((1,), [[[5, 6, 7]], [[5]]]))
        self.assertEqual(hall.turned("a", "b"), (1, 2))

    def test_no_run_left(self):
        hall = led(deeds_of((1,), [[[9, 9]], [[4]]]))
        self.assertEqual(hall.turned("a", "b"), (0, 1))
        hall = led(deeds_of((1, 1), [[[9, 9, 9], [9]], [[4], [4]]]))
        self.assertEqual(hall.turned("a", "b"), (3,))

    def test_the_other_ones_runs_stay(self):
        hall = led(deeds_of((1,), [[[9, 8, 8]], [[0, 16, 0]]]))
        self.assertEqual(hall.turned("a", "b"), (0, 1, 2))

    def test_runs_of_several_tasks(self):
        # Without the first of each task a has 4 and 4, against 9.
        hall = led(deeds_of((1, 1), [[[9, 4, 4], [9, 4, 4]], [[4], [5]]]))
        self.assertEqual(hall.turned("a", "b"), (0, 3))

    def test_the_weight_counts(self):
        hall = led(deeds_of((9, 1), [[[6, 3], [9, 0]], [[4], [3]]]))
        self.assertEqual(hall.turned("a", "b"), (0,))
        hall = led(deeds_of((1, 9), [[[6, 4], [6, 3]], [[8], [3]]]))
        self.assertEqual(hall.turned("a", "b"), (2,))

    def test_struck_runs_are_not_told(self):
        hall = led(deeds_of((1,), [[[16, 9, 1, 5]], [[4]]]))
        hall.strike(0)
        self.assertEqual(hall.turned("a", "b"), (1,))

    def test_numbers_rise(self):
        deeds = deeds_of((1,), [[[1, 9, 2, 9, 9]], [[3]]])
        self.assertEqual(led(deeds).turned("a", "b"), (1, 3, 4))
        self.check_turned(deeds)

    def test_against_all_sets(self):
        chance = random.Random(13)
        many = 0
        for machines, tasks, runs in ((2, 1, 5), (3, 1, 5), (2, 2, 4), (3, 2, 3), (2, 3, 3), (4, 2, 3), (5, 1, 4)):
            for scores in ((0, 16), (0, 3), (8, 16), (4, 6)):
                for _ in range(4):
                    many += self.check_turned(by_chance(chance, machines, tasks, runs, scores))
        self.assertGreater(many, 100)

    def test_against_all_sets_with_as_many_runs(self):
        chance = random.Random(14)
        for tasks, runs in ((1, 5), (2, 5), (3, 3), (4, 2)):
            for _ in range(6):
                weak = [[chance.randint(0, 8) for _ in range(runs)] for _ in range(tasks)]
                strong = [[chance.randint(4, 16) for _ in range(runs)] for _ in range(tasks)]
                weights = [chance.randint(1, 9) for _ in range(tasks)]
                self.check_turned(deeds_of(weights, [weak, strong]))


class Full(Case):
    def test_a_full_hall_is_answered_within_some_seconds(self):
        chance = random.Random(15)
        hall = led(same_runs(chance, 6, 4, 5))
        self.assertEqual(len(hall.ranks()), 6)
        begun = time.monotonic()
        hall.parted()
        for name in MACHINES:
            self.assertEqual(sum(many for _, many in hall.spread(name)), 625)
            self.assertEqual(sum(Fraction(*share) for share in hall.shares(name)), 1)
            self.assertEqual(len(hall.shares(name)), 6)
            hall.holds(name)
            for other in MACHINES:
                self.assertEqual(sum(Fraction(*share) for share in hall.ahead(name, other)), 1)
        for share in SHARES:
            self.assertEqual(len(hall.sure(share)), 6)
        ranks = hall.ranks()
        for at, (rank, name, _) in enumerate(ranks):
            for other_rank, other, _ in ranks[at:]:
                if rank < other_rank:
                    self.assertTrue(1 <= len(hall.turned(name, other)) <= 5)
        hall.publish()
        hall.task("ta", (QUESTIONS[:9], 9))
        hall.stale(0)
        hall.clean()
        self.assertLess(time.monotonic() - begun, 20)

    def test_all_alike(self):
        hall = led(deeds_of((9, 9, 9, 9), [[[7] * 5] * 4] * 6))
        for name in MACHINES:
            self.assertEqual(hall.shares(name), [(1, 1)] + [(0, 1)] * 5)
            self.assertEqual(hall.holds(name), (1, 1))


if __name__ == "__main__":
    unittest.main()
