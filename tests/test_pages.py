"""Tests of pages, deeds, halls led by them, and deals: points [13] and [14]."""

import copy
import random
import unittest

from kit import (
    DOUBLE, MACHINES, MOODY, NUMBERS, OTHERS, QUESTIONS, SILENT, Slow, any_deed, deeds_of, do, told,
)
from measurehall.errors import (
    BadDeed, BadMachine, BadName, BadScore, BadSeed, BadTask, HallError, NoMachine, NoPage, NoRun, NoTask,
    Taken, TooMany,
)
from measurehall.halls import Hall, led

TASK = (QUESTIONS[:5], 2)
SOME = deeds_of((1, 2), [[[3, 4], [5]], [[9], [8, 7]], [[16], []]]) + [("publish",)]

# What is no deed by its word and count.
NO_DEEDS = (
    None, True, False, 0, 5, "clean", "publish", "", (), [], ["clean"], ["publish"], [("clean",)], (("clean",),),
    ("clean", None), ("clean", ()), ("publish", 0), ("publish", None), ("strike",), ("strike", 0, 0), ("task",),
    ("task", "ta"), ("task", "ta", TASK, 1), ("machine",), ("machine", "z"), ("machine", "z", DOUBLE, 0), ("tell",),
    ("tell", "a", "ta", 9), ("tell", "a", "ta", 9, 0, 0), ("tell", "a", "ta"), ("told", "a", "ta", 9, 0), ("Clean",),
    ("CLEAN",), ("clean ",), ("cleaned",), ("parted",), ("ranks",), ("page", 0), ("stale", 0), ("deal", []), ("deal",),
    ("deeds",), ("is_open",), ("spread", "a"), ("strikes", 0), (None,), (True,), (5,), ((),), (None, 0), (0, 0),
    (("clean",), 0), (["strike"], 0), ("ta", "task", TASK), ["task", "ta", TASK], ["tell", "a", "ta", 9, 0],
    ["strike", 0], {}, {"clean": 1}, b"clean", (b"clean",), (b"strike", 0), ("do", 1), ("led", []), ("tell",) * 4,
)

# Deeds that a hall of SOME refuses, and by what.
REFUSED = (
    (BadName, ("task", "T", TASK)), (BadName, ("task", None, None)), (BadTask, ("task", "ta", None)),
    (BadTask, ("task", "ta", (QUESTIONS[:3] + (None,), 1))), (BadName, ("machine", "", DOUBLE)),
    (BadMachine, ("machine", "z", DOUBLE + (None,))), (BadMachine, ("machine", "a", None)),
    (Taken, ("machine", "a", DOUBLE)), (NoMachine, ("tell", "zz", "ta", 9, 0)), (NoMachine, ("tell", [], "ta", 9, 0)),
    (NoTask, ("tell", "a", "zz", 9, 0)), (BadSeed, ("tell", "a", "ta", 1000, 0)),
    (BadSeed, ("tell", "a", "ta", True, 0)),
    (BadScore, ("tell", "a", "ta", 9, 17)), (BadScore, ("tell", "a", "ta", 9, None)),
    (Taken, ("tell", "a", "ta", 0, 0)), (NoRun, ("strike", 99)), (NoRun, ("strike", None)), (NoRun, ("strike", True)),
    (NoRun, ("strike", ("clean",))),
)


class Case(unittest.TestCase):
    def refuse(self, error, ask, *args):
        with self.subTest(error=error.__name__, args=repr(args)[:300]):
            with self.assertRaises(HallError) as got:
                ask(*args)
            self.assertIs(type(got.exception), error)
            return got.exception

    def refuse_deal(self, error, hall, deeds, number=None):
        """The deal is refused, and all is as ahead, numbers of runs and pages to come too."""
        before = told(hall)
        kept = copy.deepcopy(deeds)
        refused = self.refuse(error, hall.deal, deeds)
        self.assertEqual(deeds, kept)
        self.assertIs(hall.is_open(), False)
        self.assertEqual(told(hall), before)
        if number is not None:
            self.assertEqual(refused.number, number)
            self.assertNotIsInstance(refused.number, bool)
        return refused

    def check_alike(self, one, other):
        self.assertEqual(told(one), told(other))

    def check_go_on_alike(self, one, other, seed):
        """Both tell the same whatever is done to them."""
        chance = random.Random(seed)
        slow = Slow(one.deeds())
        for _ in range(15):
            deed = any_deed(slow, chance)
            due = slow.do(deed)
            self.assertEqual(do(one, deed), due)
            self.assertEqual(do(other, deed), due)
        self.check_alike(one, other)


class Pages(Case):
    def test_numbers(self):
        hall = led(SOME[:-1])
        self.assertEqual([hall.publish() for _ in range(5)], [0, 1, 2, 3, 4])
        self.assertEqual(hall.deeds()[-5:], [("publish",)] * 5)
        empty = Hall()
        self.assertEqual(empty.publish(), 0)
        self.assertEqual(empty.page(0), [])
        self.assertEqual(empty.stale(0), [])
        self.assertEqual(empty.publish(), 1)

    def test_a_page_tells_what_ranks_told(self):
        hall = led(SOME)
        ranks = hall.ranks()
        self.assertEqual(ranks, [(1, "b", (24, 1)), (2, "a", (27, 2))])
        self.assertEqual(hall.page(0), ranks)
        self.assertIs(type(hall.page(0)), list)
        self.assertEqual(hall.stale(0), [])

    def test_pages_stay(self):
        hall = led(SOME)
        ranks = hall.ranks()
        for deed in (
            ("tell", "c", "tb", 0, 16), ("strike", 0), ("strike", 4), ("clean",), ("task", "ta", TASK),
            ("machine", "z", DOUBLE), ("task", "tc", TASK), ("publish",),
        ):
            do(hall, deed)
            self.assertEqual(hall.page(0), ranks)
        self.assertEqual(hall.ranks(), [])
        self.assertEqual(hall.page(1), [])
        self.assertEqual(hall.stale(0), [("a", 2, None), ("b", 1, None)])

    def test_a_mean_that_changes_alone_is_not_stale(self):
        hall = led(SOME)
        hall.strike(0)
        self.assertNotEqual(hall.ranks(), hall.page(0))
        self.assertEqual(hall.stale(0), [])

    def test_stale_behind_each_sort_of_deed(self):
        for deed, due in (
            (("task", "tc", TASK), [("a", 2, None), ("b", 1, None)]),
            (("task", "ta", TASK), []),
            (("task", "tb", (tuple((q, 2 * q + (q > 3), None) for q in range(16)), 9)), []),
            (("machine", "new", DOUBLE), []),
            (("tell", "c", "tb", 0, 16), [("a", 2, 3), ("b", 1, 2), ("c", None, 1)]),
            (("tell", "c", "tb", 0, 0), [("a", 2, 3), ("c", None, 2)]),
            (("tell", "a", "tb", 9, 16), [("a", 2, 1), ("b", 1, 2)]),
            (("tell", "a", "ta", 9, 16), []),
            (("strike", 3), [("a", 2, 1), ("b", 1, None)]),
            (("strike", 2), [("a", 2, None)]),
            (("strike", 4), []),
            (("clean",), [("a", 2, None), ("b", 1, None)]),
            (("publish",), []),
        ):
            hall, slow = led(SOME), Slow(SOME)
            do(hall, deed)
            slow.do(deed)
            self.assertEqual(hall.stale(0), slow.stale(0))
            self.assertEqual(hall.stale(0), due, deed)
            self.assertIs(type(hall.stale(0)), list)

    def test_not_stale_any_more(self):
        hall = led(SOME)
        number = hall.tell("c", "tb", 0, 16)
        self.assertEqual(hall.publish(), 1)
        self.assertEqual(hall.stale(1), [])
        hall.strike(number)
        self.assertEqual(hall.stale(0), [])
        self.assertEqual(hall.stale(1), [("a", 3, 2), ("b", 2, 1), ("c", 1, None)])

    def test_names_rise(self):
        hall = Hall()
        hall.task("t", TASK)
        for name in ("zz", "b", "za", "a"):
            hall.machine(name, DOUBLE)
            hall.tell(name, "t", 0, 5)
        hall.publish()
        hall.task("u", TASK)
        self.assertEqual(hall.stale(0), [(name, 1, None) for name in ("a", "b", "za", "zz")])
        hall.publish()
        for name in ("za", "zz", "a"):
            hall.tell(name, "u", 0, 5)
        self.assertEqual(hall.stale(1), [(name, None, 1) for name in ("a", "za", "zz")])

    def test_no_page_changes_nothing(self):
        hall = led(SOME)
        for number in OTHERS + (-1, 1, 2):
            before = told(hall)
            self.refuse(NoPage, hall.page, number)
            self.refuse(NoPage, hall.stale, number)
            self.assertEqual(told(hall), before)

    def test_by_chance_against_the_slow_hall(self):
        stale = 0
        for number in range(30):
            chance = random.Random(100 + number)
            hall, slow = Hall(), Slow()
            for _ in range(50):
                deed = any_deed(slow, chance)
                self.assertEqual(do(hall, deed), slow.do(deed))
                for page in range(len(slow.pages)):
                    self.assertEqual(hall.page(page), slow.pages[page])
                    self.assertEqual(hall.stale(page), slow.stale(page))
                    stale += bool(hall.stale(page))
        self.assertGreater(stale, 200)


class Deeds(Case):
    def test_each_sort(self):
        hall = Hall()
        done = [
            ("task", "t", TASK), ("machine", "a", DOUBLE), ("tell", "a", "t", 5, 3), ("tell", "a", "t", 6, 5),
            ("publish",), ("strike", 1), ("clean",), ("task", "t", TASK), ("publish",), ("clean",),
        ]
        for at, deed in enumerate(done):
            self.assertEqual(hall.deeds(), done[:at])
            do(hall, deed)
        self.assertEqual(hall.deeds(), done)
        self.assertIs(type(hall.deeds()), list)
        for deed in hall.deeds():
            self.assertIs(type(deed), tuple)

    def test_none_yet(self):
        self.assertEqual(Hall().deeds(), [])
        self.assertEqual(led([]).deeds(), [])

    def test_what_is_asked_or_refused_is_no_deed(self):
        hall = led(SOME)
        for _, deed in REFUSED:
            with self.assertRaises(HallError):
                do(hall, deed)
        hall.ranks()
        hall.parted()
        hall.page(0)
        hall.stale(0)
        hall.sure((1, 2))
        hall.turned("b", "a")
        self.assertEqual(hall.deeds(), SOME)

    def test_told_and_led_anew(self):
        for number in range(30):
            chance = random.Random(200 + number)
            hall, slow = Hall(), Slow()
            for _ in range(40):
                deed = any_deed(slow, chance)
                slow.do(deed)
                do(hall, deed)
            again = led(hall.deeds())
            self.assertIs(type(again), Hall)
            self.check_alike(hall, again)
            self.assertEqual([again.page(page) for page in range(len(slow.pages))], slow.pages)
            self.check_go_on_alike(hall, again, number)

    def test_led_of_none(self):
        hall = led([])
        self.assertIs(type(hall), Hall)
        self.check_alike(hall, Hall())
        self.assertEqual(hall.ranks(), [])
        self.assertIs(hall.is_open(), False)

    def test_led_halls_have_nothing_in_common(self):
        deeds = list(SOME)
        one, other = led(deeds), led(deeds)
        one.strike(0)
        one.publish()
        one.task("ta", TASK)
        self.check_alike(other, led(SOME))
        self.assertEqual(deeds, SOME)

    def test_led_refuses_what_is_no_deed(self):
        for bad in NO_DEEDS:
            for deeds, number in (
                ([bad], 0), (SOME + [bad], len(SOME)), (SOME[:2] + [bad] + SOME[2:], 2), ([bad, bad], 0),
                ([bad] + SOME, 0), (SOME[:5] + [bad, ("clean",), bad], 5),
            ):
                self.assertEqual(self.refuse(BadDeed, led, deeds).number, number)

    def test_no_deed_is_refused_ahead_of_all_that_deeds_are_refused_with(self):
        for bad in NO_DEEDS[:20]:
            for error, deed in REFUSED:
                self.assertEqual(self.refuse(BadDeed, led, SOME + [deed, bad]).number, len(SOME) + 1)
                self.refuse(error, led, SOME + [deed])

    def test_led_refuses_what_a_deed_is_refused_with(self):
        for error, deed in REFUSED:
            self.refuse(error, led, SOME + [deed])
            self.refuse(error, led, SOME + [deed, ("strike", 99), ("task", None, None)])
        self.assertEqual(self.refuse(BadTask, led, [("task", "t", (QUESTIONS[:3] + (None,), 1))]).number, 3)
        self.assertEqual(self.refuse(BadMachine, led, [("machine", "t", DOUBLE + (None,))]).row, 1)
        self.refuse(NoMachine, led, SOME[3:])
        self.refuse(NoRun, led, [("strike", 0)])

    def test_led_of_what_is_no_list(self):
        for deeds in (None, True, False, 5, 0, "", "clean", (), (("clean",),), ("clean",), b"", {}, {1: 2}):
            self.assertEqual(self.refuse(BadDeed, led, deeds).number, -1)
            self.refuse_deal(BadDeed, led(SOME), deeds, -1)

    def test_lists_of_others(self):
        for deeds in [other for other in OTHERS if isinstance(other, list) and other] + [[n] for n in NUMBERS]:
            self.assertEqual(self.refuse(BadDeed, led, deeds).number, 0)
            self.refuse_deal(BadDeed, led(SOME), deeds, 0)


class Deals(Case):
    def test_done_whole(self):
        hall = led(SOME)
        deal = [
            ("machine", "z", SILENT), ("tell", "c", "tb", 0, 16), ("tell", "z", "ta", 7, 0), ("strike", 0),
            ("publish",), ("task", "tb", TASK), ("strike", 3), ("clean",), ("publish",), ("tell", "z", "tb", 7, 0),
        ]
        slow = Slow(SOME)
        got = hall.deal(deal)
        self.assertEqual(got, [slow.do(deed) for deed in deal])
        self.assertEqual(got[:5], [[], 7, 8, [], 1])
        self.assertIs(type(got), list)
        self.assertEqual(hall.deeds(), SOME + deal)
        self.assertIs(hall.is_open(), False)
        self.assertEqual(hall.ranks(), slow.ranks())
        self.assertEqual(hall.parted(), slow.parted())
        self.check_alike(hall, led(SOME + deal))
        self.check_go_on_alike(hall, led(SOME + deal), 5)

    def test_done_as_one_by_one(self):
        for number in range(30):
            chance = random.Random(300 + number)
            slow = Slow()
            for _ in range(chance.randint(0, 20)):
                slow.do(any_deed(slow, chance))
            hall = led(slow.done)
            one_by_one = led(slow.done)
            deal, due = [], []
            for _ in range(chance.randint(1, 20)):
                deal.append(any_deed(slow, chance))
                due.append(slow.do(deal[-1]))
            self.assertEqual(hall.deal(deal), due)
            self.assertEqual([do(one_by_one, deed) for deed in deal], due)
            self.check_alike(hall, one_by_one)
            self.check_go_on_alike(hall, one_by_one, number)

    def test_none(self):
        hall = led(SOME)
        before = told(hall)
        self.assertEqual(hall.deal([]), [])
        self.assertEqual(told(hall), before)

    def test_a_whole_hall_dealt(self):
        hall = Hall()
        hall.deal(SOME)
        self.check_alike(hall, led(SOME))

    def test_what_is_no_deed(self):
        deal = [("strike", 0), ("clean",), ("publish",), ("tell", "c", "tb", 0, 16)]
        for bad in NO_DEEDS:
            hall = led(SOME)
            for at in range(5):
                self.refuse_deal(BadDeed, hall, deal[:at] + [bad] + deal[at:], at)
                self.refuse_deal(BadDeed, hall, deal[:at] + [bad, bad] + deal[at:], at)
            self.check_go_on_alike(hall, led(SOME), 1)

    def test_no_deed_is_refused_ahead_of_all_that_deeds_are_refused_with(self):
        hall = led(SOME)
        for bad in NO_DEEDS[:20]:
            for _, deed in REFUSED:
                self.refuse_deal(BadDeed, hall, [deed, ("clean",), bad], 2)

    def test_refused_at_each_place(self):
        deal = [
            ("tell", "c", "tb", 5, 16), ("tell", "a", "ta", 5, 1), ("publish",), ("machine", "new", MOODY),
            ("task", "ta", (QUESTIONS[2:9], 3)), ("strike", 1), ("publish",), ("task", "tc", TASK), ("clean",),
            ("tell", "c", "tc", 5, 1), ("task", "tb", TASK), ("publish",),
        ]
        for error, deed in REFUSED:
            for at in range(len(deal) + 1):
                hall = led(SOME)
                self.refuse_deal(error, hall, deal[:at] + [deed] + deal[at:])
                self.check_go_on_alike(hall, led(SOME), at)
        self.assertEqual(len(led(SOME).deal(deal)), len(deal))

    def test_what_deals_are_refused_with_has_its_value(self):
        hall = led(SOME)
        self.assertEqual(
            self.refuse_deal(BadMachine, hall, [("clean",), ("machine", "z", DOUBLE + (None,))]).row, 1
        )
        self.refuse_deal(BadTask, hall, [("clean",), ("task", "ta", (QUESTIONS[:3] + (None,), 1))], 3)

    def test_refused_by_what_the_deal_itself_did(self):
        hall = led(SOME)
        self.refuse_deal(Taken, hall, [("machine", "z", DOUBLE), ("machine", "z", DOUBLE)])
        self.refuse_deal(NoRun, hall, [("strike", 0), ("strike", 0)])
        self.refuse_deal(NoRun, hall, [("clean",), ("strike", 0)])
        self.refuse_deal(TooMany, hall, [("machine", name, DOUBLE) for name in ("d", "e", "f", "g")])
        self.refuse_deal(TooMany, hall, [("task", name, TASK) for name in ("tc", "td", "te")])
        self.refuse_deal(TooMany, hall, [("tell", "b", "ta", seed, 0) for seed in range(1, 6)])
        self.refuse_deal(BadScore, hall, [("task", "ta", (QUESTIONS[:1], 1)), ("tell", "b", "ta", 5, 2)])
        self.assertEqual(hall.deal([("tell", "b", "ta", 5, 2)]), [7])

    def test_a_run_struck_in_a_deal_that_is_refused_counts(self):
        hall = led(SOME)
        self.refuse_deal(NoRun, hall, [("strike", 0), ("clean",), ("publish",), ("strike", 99)])
        self.assertEqual(hall.strike(0), [])
        self.refuse(NoRun, hall.strike, 0)

    def test_scores_are_as_ahead(self):
        hall = led(SOME)
        parted = hall.parted()
        self.assertEqual([row[1] for row in parted], [3, 4, 5, 9, 8, 7])
        self.refuse_deal(NoRun, hall, [("task", "ta", TASK), ("task", "tb", TASK), ("strike", 99)])
        self.assertEqual(hall.parted(), parted)

    def test_numbers_to_come_are_as_ahead(self):
        hall = led(SOME)
        for _ in range(3):
            deal = [("tell", "b", "ta", 7, 1), ("tell", "b", "ta", 8, 1), ("publish",), ("publish",), ("strike", 99)]
            self.refuse_deal(NoRun, hall, deal)
        self.assertEqual(hall.tell("b", "ta", 7, 1), 7)
        self.assertEqual(hall.publish(), 1)

    def test_room_is_as_ahead(self):
        hall = led(SOME)
        self.refuse_deal(NoRun, hall, [("machine", name, DOUBLE) for name in "def"] + [("strike", 99)])
        for name in "def":
            hall.machine(name, DOUBLE)
        self.refuse_deal(NoRun, hall, [("task", "tc", TASK), ("task", "td", TASK), ("strike", 99)])
        hall.task("te", TASK)
        hall.task("tf", TASK)

    def test_deals_in_turn(self):
        hall, slow = Hall(), Slow()
        for at in range(0, len(SOME), 3):
            self.refuse_deal(NoRun, hall, SOME[at:at + 3] + [("strike", 99)])
            self.assertEqual(hall.deal(SOME[at:at + 3]), [slow.do(deed) for deed in SOME[at:at + 3]])
        self.check_alike(hall, led(SOME))


class Watched(Hall):
    """A hall that notes whether a deal is under way when something is done to it."""

    def note(self):
        self.seen = getattr(self, "seen", []) + [self.is_open()]

    def publish(self):
        self.note()
        return super().publish()

    def strike(self, number):
        self.note()
        return super().strike(number)


class Broken(Hall):
    """A hall that breaks down where a page is published."""

    def publish(self):
        raise RuntimeError("broken")


class Open(Case):
    def test_else_false(self):
        hall = Hall()
        self.assertIs(hall.is_open(), False)
        hall.deal(SOME)
        self.assertIs(hall.is_open(), False)
        for _, deed in REFUSED:
            self.refuse_deal(NoRun, hall, [("strike", 99)])
            with self.assertRaises(HallError):
                hall.deal([deed])
            self.assertIs(hall.is_open(), False)
        self.refuse_deal(BadDeed, hall, [None])

    def test_under_way(self):
        hall = Watched()
        hall.deal(SOME)
        hall.publish()
        with self.assertRaises(NoRun):
            hall.deal([("publish",), ("strike", 0), ("strike", 99), ("publish",)])
        hall.publish()
        self.assertEqual(hall.seen, [True, False, True, True, True, False])

    def test_whatever_breaks_a_deal_all_is_as_ahead(self):
        hall = Broken()
        hall.deal(SOME[:-1])
        before = told(hall)
        with self.assertRaises(RuntimeError):
            hall.deal([("strike", 0), ("task", "ta", TASK), ("publish",)])
        self.assertEqual(told(hall), before)
        self.assertIs(hall.is_open(), False)


class Kept(Case):
    def test_each_list_that_is_told_may_be_changed(self):
        hall = led(SOME)
        hall.tell("c", "tb", 0, 16)
        asks = (
            hall.ranks, hall.parted, hall.deeds, lambda: hall.page(0), lambda: hall.stale(0),
            lambda: hall.spread("a"), lambda: hall.shares("a"), lambda: hall.sure((1, 2)),
        )
        due = [copy.deepcopy(ask()) for ask in asks]
        for change in (list.clear, list.reverse, lambda xs: xs.append(5), lambda xs: xs.insert(0, None)):
            for ask, was in zip(asks, due):
                got = ask()
                self.assertIs(type(got), list)
                self.assertTrue(got)
                change(got)
                self.assertEqual([copy.deepcopy(again()) for again in asks], due)
                self.assertEqual(ask(), was)

    def test_what_is_in_lists_is_of_tuples(self):
        hall = led(SOME)
        hall.tell("c", "tb", 0, 16)

        def is_fixed(value):
            if isinstance(value, tuple):
                return all(is_fixed(part) for part in value)
            return value is None or type(value) in (int, str)

        for got in (
            hall.ranks(), hall.parted(), hall.deeds(), hall.page(0), hall.stale(0), hall.spread("a"),
            hall.shares("a"), hall.sure((1, 2)), hall.strike(0), hall.clean(),
        ):
            for value in got:
                self.assertTrue(is_fixed(value), value)

    def test_lists_that_deeds_tell_may_be_changed(self):
        hall = led(SOME)
        for got in (
            hall.deal([("strike", 0), ("publish",)]), hall.machine("z", DOUBLE), hall.task("tc", TASK), hall.strike(1),
            hall.clean(),
        ):
            got.append("more")
            got.insert(0, "more")
        got = hall.deal([("machine", "y", DOUBLE), ("clean",)])
        for told_list in got:
            told_list.append(5)
        self.assertEqual(hall.machine("w", DOUBLE), [])
        self.assertEqual(hall.clean(), [])
        self.check_alike(hall, led(hall.deeds()))

    def test_lists_handed_in_may_be_changed_behind(self):
        deeds = list(SOME)
        hall = led(deeds)
        before = told(hall)
        deeds.clear()
        self.assertEqual(told(hall), before)
        deal = [("tell", "c", "tb", 0, 16), ("publish",)]
        hall.deal(deal)
        before = told(hall)
        deal.reverse()
        deal.append(("clean",))
        self.assertEqual(told(hall), before)
        self.assertEqual(hall.deeds(), SOME + [("tell", "c", "tb", 0, 16), ("publish",)])

    def test_deeds_handed_in_are_not_changed(self):
        deeds = list(SOME)
        led(deeds)
        self.assertEqual(deeds, SOME)
        hall = Hall()
        hall.deal(deeds)
        hall.deal(hall.deeds()[-1:])
        self.assertEqual(deeds, SOME)

    def test_its_own_deeds_dealt_to_it(self):
        hall = Hall()
        hall.deal([("clean",), ("publish",)])
        for many in (2, 4, 8):
            hall.deal(hall.deeds())
            self.assertEqual(hall.deeds(), [("clean",), ("publish",)] * many)


class Full(Case):
    def test_a_full_hall_comes_again(self):
        chance = random.Random(9)
        runs = [[[chance.randint(0, 16) for _ in range(5)] for _ in range(4)] for _ in MACHINES]
        hall = led(deeds_of((1, 4, 9, 2), runs) + [("publish",), ("clean",), ("publish",)])
        again = led(hall.deeds())
        self.check_alike(hall, again)
        self.refuse_deal(TooMany, hall, [("machine", "g", DOUBLE)])
        self.refuse_deal(TooMany, hall, [("task", "te", TASK)])


if __name__ == "__main__":
    unittest.main()
