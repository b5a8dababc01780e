"""Tests of measurehall.notes: point [3]."""

import itertools
import random
import unittest

from kit import OTHERS
from measurehall.errors import BadMachine, BadText, HallError
from measurehall.notes import read, written

# Rows and the lines that write them.
ROWS = (
    ((("any",), ("none",)), "any none"),
    ((("any",), ("num", 0)), "any num 0"),
    ((("any",), ("num", 5)), "any num 5"),
    ((("any",), ("num", -1)), "any num -1"),
    ((("any",), ("num", 9999)), "any num 9999"),
    ((("any",), ("num", -9999)), "any num -9999"),
    ((("any",), ("plus", 0)), "any plus 0"),
    ((("any",), ("plus", 10)), "any plus 10"),
    ((("any",), ("plus", -10)), "any plus -10"),
    ((("any",), ("plus", -9999)), "any plus -9999"),
    ((("any",), ("times", 0)), "any times 0"),
    ((("any",), ("times", 100)), "any times 100"),
    ((("any",), ("times", -100)), "any times -100"),
    ((("any",), ("times", 9999)), "any times 9999"),
    ((("any",), ("rest", 2)), "any rest 2"),
    ((("any",), ("rest", 99)), "any rest 99"),
    ((("below", 0), ("none",)), "below 0 none"),
    ((("below", 7), ("num", 7)), "below 7 num 7"),
    ((("below", 9999), ("rest", 10)), "below 9999 rest 10"),
    ((("rest", 2, 0), ("none",)), "rest 2 0 none"),
    ((("rest", 2, 1), ("rest", 2)), "rest 2 1 rest 2"),
    ((("rest", 99, 98), ("num", -7)), "rest 99 98 num -7"),
    ((("rest", 10, 3), ("rest", 10)), "rest 10 3 rest 10"),
    ((("chance", 7, 2), ("plus", -1)), "chance 7 2 plus -1"),
    ((("chance", 2, 0), ("none",)), "chance 2 0 none"),
    ((("chance", 99, 98), ("times", 1000)), "chance 99 98 times 1000"),
    ((("known", (3, 17)), ("num", 5)), "known 3,17 num 5"),
    ((("known", (0,)), ("none",)), "known 0 none"),
    ((("known", (9999,)), ("rest", 2)), "known 9999 rest 2"),
    ((("known", (0, 9, 10, 99, 100, 999, 1000, 9999)), ("plus", 1)),
     "known 0,9,10,99,100,999,1000,9999 plus 1"),
)
LINES = tuple(line for _, line in ROWS)
GOOD = LINES[:12]

BAD_LINES = (
    # Nothing, blanks, and lines with too much or too little.
    "", " ", "  ", "any", "none", "any ", " none", "any none none", "any none 0", "any any none",
    "any num", "any num 5 5", "any num 5 none", "any num 5 num 5", "any plus", "any times", "any rest",
    "any rest 2 0", "any rest 5 5 none", "any 0 none", "any 5 num 5", "below none", "below num 5", "below 5",
    "below 5 5 none", "below 5 6 num 7", "rest 5 none", "rest 5 num 5", "rest none", "rest 5 4 3 none",
    "chance 5 none", "chance none", "chance 5 4 3 none", "known none", "known num 5", "known 5", "known",
    "known 3 17 num 5", "num 5", "num 5 any", "none any", "5 any", "0", "5",
    # Blanks at the begin, at the end, twice, and other white space.
    " any none", "any none ", "any  none", "any num  5", "any  num 5", "below  5 none", "known  num 5",
    "known 3, 17 num 5", "known 3 ,17 num 5", "any\tnone", "any none\t", "\tany none", "any none\r",
    "any num 5\r", "any num \r5", "any\u00a0none", "any none\v", "any none\f", "any none\u2028any none",
    "any none\r\nany none".split("\n", maxsplit=1)[0],
    # Words that are none.
    "Any none", "ANY none", "any None", "any nothing", "all none", "anynone", "any-none", "any,none",
    "below5 none", "under 5 none", "any nums 5", "any add 5", "any below 5", "any known 5", "any chance 5",
    "any any", "none none", "plus 5 none", "times 5 none", "num 5 none", "# any none", "any none # so",
    "'any' none", "any 5", "any -5", "(any) none", "a none", "any non", "any chance 7 2",
    # Figures that are none, too many, or needless.
    "any num 00", "any num -0", "any num 05", "any num 0005", "any num -05", "any num +5", "any num 5.0",
    "any num 10000", "any num 00000", "any num 12345", "any num -10000", "any num 1e3", "any num five",
    "any num --5", "any num -", "any num 5-", "any num - 5", "any num 1_0", "any num 0x5", "any num 5,",
    "any num 5,6", "any num ,", "any num \u0665", "any num \u00b2", "any num \uff15", "any num -00",
    "any num 99999999999999999999", "any num None", "any num True", "any num False", "any num 1'0",
    "any plus 00", "any plus -0", "any plus 10000", "any times -0", "any times 05", "any times -10000",
    "any rest 02", "any rest +2", "any rest 099", "any rest -2", "any rest 0", "any rest 1", "any rest 100",
    "any rest 9999", "any rest 10000", "any rest -0",
    "below 00 none", "below -0 none", "below 05 none", "below 10000 none", "below -1 none", "below -9999 none",
    "below x none", "below 5, none", "below 3,17 none", "below , none",
    "rest 1 0 none", "rest 0 0 none", "rest 100 0 none", "rest 2 2 none", "rest 7 7 none", "rest 7 8 none",
    "rest 99 99 none", "rest 7 -1 none", "rest -7 1 none", "rest 7 -0 none", "rest 07 1 none", "rest 7 01 none",
    "rest 7 00 none", "rest x 0 none", "rest 7 x none", "rest 7,1 none", "rest 10000 0 none", "rest 7 10000 none",
    "chance 1 0 none", "chance 0 0 none", "chance 100 0 none", "chance 2 2 none", "chance 99 99 none",
    "chance 7 -1 none", "chance -7 1 none", "chance 7 -0 none", "chance 07 1 none", "chance 7 01 none",
    "chance x 0 none", "chance 7 x none", "chance 7,1 none",
    # Known numbers that don't rise, are too many, or none.
    "known , none", "known 3, num 5", "known ,3 num 5", "known 3,,17 num 5", "known 3,3 num 5", "known 5,3 num 5",
    "known 1,2,2 num 5", "known 1,3,2 num 5", "known 03 num 5", "known 00 none", "known -0 none", "known -1 none",
    "known -1,5 none", "known 3,017 num 5", "known 3,-17 num 5", "known 10000 none", "known 3,10000 none",
    "known 0,1,2,3,4,5,6,7,8 none", "known 0,1,2,3,4,5,6,7,8,9 none", "known 3;17 none", "known 3.17 none",
    "known (3,17) none", "known x none", "known 3,x none", "known 3,17, none", "known 0,00 none", "known 0,-0 none",
)


def numbers_of(length, low, high, chance):
    return tuple(sorted(chance.sample(range(low, high + 1), length)))


def any_row(chance):
    """A row that can be, by chance."""
    divisor = chance.randint(2, 99)
    test = chance.choice((
        ("any",), ("below", chance.randint(0, 9999)), ("rest", divisor, chance.randint(0, divisor - 1)),
        ("chance", divisor, chance.randint(0, divisor - 1)),
        ("known", numbers_of(chance.randint(1, 8), 0, chance.choice((9, 9999)), chance)),
    ))
    number = chance.choice((chance.randint(-9999, 9999), chance.randint(-12, 12)))
    answer = chance.choice((
        ("num", number), ("plus", number), ("times", number), ("rest", chance.randint(2, 99)), ("none",),
    ))
    return (test, answer)


class Case(unittest.TestCase):
    def check_bad_text(self, text, row):
        with self.subTest(text=repr(text)[:200]):
            with self.assertRaises(HallError) as got:
                read(text)
            self.assertIs(type(got.exception), BadText)
            self.assertEqual(got.exception.row, row)
            self.assertNotIsInstance(got.exception.row, bool)

    def check_bad_machine(self, machine, row):
        with self.subTest(machine=repr(machine)[:200]):
            with self.assertRaises(HallError) as got:
                written(machine)
            self.assertIs(type(got.exception), BadMachine)
            self.assertEqual(got.exception.row, row)


class ThereAndBack(Case):
    def test_each_row(self):
        for row, line in ROWS:
            with self.subTest(line=line):
                self.assertEqual(written((row,)), line)
                self.assertEqual(read(line), (row,))
                self.assertIs(type(read(line)), tuple)

    def test_what_the_document_writes(self):
        machine = (
            (("known", (3, 17)), ("num", 5)), (("chance", 7, 2), ("plus", -1)), (("any",), ("none",)),
        )
        text = "known 3,17 num 5\nchance 7 2 plus -1\nany none"
        self.assertEqual(written(machine), text)
        self.assertEqual(read(text), machine)

    def test_one_to_twelve_rows(self):
        for many in range(1, 13):
            for first in range(len(ROWS) - many):
                machine = tuple(row for row, _ in ROWS[first:first + many])
                text = "\n".join(LINES[first:first + many])
                self.assertEqual(written(machine), text)
                self.assertEqual(read(text), machine)

    def test_the_same_row_again_and_again(self):
        for row, line in ROWS:
            self.assertEqual(written((row,) * 12), "\n".join([line] * 12))
            self.assertEqual(read("\n".join([line] * 12)), (row,) * 12)

    def test_each_test_before_each_answer(self):
        tests = {row[0]: line.rsplit(" ", len(row[1]))[0] for row, line in ROWS}
        answers = {row[1]: line.split(" ", len(row[0]))[-1] for row, line in ROWS}
        self.assertGreater(len(tests), 10)
        self.assertGreater(len(answers), 10)
        for test, answer in itertools.product(tests, answers):
            text = f"{tests[test]} {answers[answer]}"
            self.assertEqual(written(((test, answer),)), text)
            self.assertEqual(read(text), ((test, answer),))

    def test_each_number_of_an_answer(self):
        for number in range(-9999, 10000):
            text = f"any num {number}"
            self.assertEqual(written(((("any",), ("num", number)),)), text)
            self.assertEqual(read(text), ((("any",), ("num", number)),))

    def test_each_question_known(self):
        for number in range(10000):
            machine = ((("known", (number,)), ("none",)),)
            self.assertEqual(written(machine), f"known {number} none")
            self.assertEqual(read(f"known {number} none"), machine)

    def test_one_to_eight_known(self):
        for many in range(1, 9):
            numbers = tuple(range(10, 10 + 3 * many, 3))
            text = "known " + ",".join(str(number) for number in numbers) + " rest 5"
            self.assertEqual(read(text), ((("known", numbers), ("rest", 5)),))
            self.assertEqual(written(read(text)), text)

    def test_machines_by_chance(self):
        chance = random.Random(3)
        for _ in range(500):
            machine = tuple(any_row(chance) for _ in range(chance.randint(1, 12)))
            text = written(machine)
            self.assertIs(type(text), str)
            self.assertEqual(text.count("\n"), len(machine) - 1)
            self.assertTrue(set(text) <= set("abcdefghijklmnopqrstuvwxyz0123456789-, \n"))
            self.assertEqual(read(text), machine)
            self.assertEqual(written(read(text)), text)

    def test_numbers_are_read_as_numbers(self):
        ((test, answer),) = read("rest 2 1 num 0")
        for number in (test[1], test[2], answer[1]):
            self.assertIs(type(number), int)
        ((test, _),) = read("known 0,1 none")
        self.assertIs(type(test[1]), tuple)
        self.assertEqual([type(number) for number in test[1]], [int, int])

    def test_asked_again(self):
        for _ in range(3):
            self.assertEqual(read("any num 5"), ((("any",), ("num", 5)),))
            self.check_bad_text("any num 05", 0)
            self.assertEqual(written(((("any",), ("num", 5)),)), "any num 5")
            self.check_bad_machine((), -1)


class BadTexts(Case):
    def test_a_bad_line_alone(self):
        for line in BAD_LINES:
            self.check_bad_text(line, 0)

    def test_a_bad_line_at_each_place(self):
        for line in BAD_LINES:
            for at in (1, 2, 5, 11):
                self.check_bad_text("\n".join(GOOD[:at] + (line,)), at)
                self.check_bad_text("\n".join(GOOD[:at] + (line,) + GOOD[at + 1:]), at)
                self.check_bad_text("\n".join(GOOD[:at] + (line, "", line)), at)

    def test_the_empty_text(self):
        self.check_bad_text("", 0)

    def test_line_ends(self):
        text = "\n".join(GOOD[:3])
        self.check_bad_text("\n", 0)
        self.check_bad_text("\n" + text, 0)
        self.check_bad_text(text + "\n", 3)
        self.check_bad_text(text + "\n\n", 3)
        self.check_bad_text("any none\n\nany none", 1)
        self.check_bad_text("any none\r\nany none", 0)
        self.check_bad_text("any none\n\rany none", 1)
        self.check_bad_text("any none\rany none", 0)
        self.check_bad_text("any\nnone", 0)
        self.check_bad_text("\n".join(GOOD) + "\n", 12)

    def test_signs_that_are_line_ends_elsewhere(self):
        for sign in ("\v", "\f", "\r", "\x1c", "\x1d", "\x1e", "\x85", "\u2028", "\u2029"):
            self.check_bad_text("any none" + sign + "any none", 0)
            self.check_bad_text("any none\nany none" + sign, 1)

    def test_each_sign_too_many(self):
        # Each sign of a text put in at each place of a line, the percent sign too.
        for line in ("any none", "below 5 none", "chance 7 2 plus -1", "known 3,17 num 5"):
            for at, sign in itertools.product(range(len(line) + 1), map(chr, range(32, 127))):
                text = line[:at] + sign + line[at:]
                if read_or_none(text) is not None:
                    self.assertIn(sign, "0123456789-,")
                    self.assertEqual(written(read(text)), text)
                    continue
                self.check_bad_text(text, 0)

    def test_each_sign_left_out(self):
        for line in LINES:
            for at in range(len(line)):
                text = line[:at] + line[at + 1:]
                if read_or_none(text) is not None:
                    self.assertIn(line[at], "0123456789-,")
                    self.assertEqual(written(read(text)), text)
                else:
                    self.check_bad_text(text, 0)

    def test_whatever_is_read_is_written_likewise(self):
        # So nothing needless is read.
        chance = random.Random(4)
        words = (
            "any", "below", "rest", "chance", "known", "num", "plus", "times", "none", "0", "1", "2", "3,17",
            "17", "-1", "-0", "00", "05", "99", "100", "9999", "10000", "-9999", "1,2", "2,1", "", ",", "-",
        )
        good = 0
        for _ in range(60000):
            text = " ".join(chance.choice(words) for _ in range(chance.randint(2, 5)))
            machine = read_or_none(text)
            if machine is not None:
                good += 1
                self.assertEqual(written(machine), text)
        self.assertGreater(good, 50)

    def test_thirteen_lines(self):
        self.check_bad_text("\n".join(GOOD + ("any none",)), 12)
        self.check_bad_text("\n".join(GOOD * 2), 12)
        self.check_bad_text("\n".join(["any none"] * 1000), 12)
        for line in BAD_LINES:
            self.check_bad_text("\n".join(GOOD + (line,)), 12)
            self.check_bad_text("\n".join(GOOD + (line, line)), 12)

    def test_a_bad_line_ahead_of_a_thirteenth(self):
        for at in range(12):
            for line in ("", "any none ", "any num 00", "rest 7 7 none", "no row"):
                self.check_bad_text("\n".join(GOOD[:at] + (line,) + GOOD[at + 1:] + ("any none",)), at)
                self.check_bad_text("\n".join(GOOD[:at] + (line,) + GOOD[at + 1:] + (line, "")), at)

    def test_what_is_no_text(self):
        for other in (
            None, True, False, 0, 5, -1, 10**30, (), ("any none",), [], ["any none"], [["any none"]],
            b"any none", ((("any",), ("none",)),), [(("any",), ("none",))],
        ):
            self.check_bad_text(other, 0)

    def test_what_is_refused_is_a_hall_error(self):
        with self.assertRaises(ValueError):
            read("no")


def read_or_none(text):
    try:
        return read(text)
    except BadText:
        return None


class BadMachines(Case):
    def test_no_tuple_and_no_rows(self):
        for other in (None, True, 5, "", "any none", [], [(("any",), ("none",))], ()):
            self.check_bad_machine(other, -1)

    def test_a_row_that_can_not_be(self):
        good = tuple(row for row, _ in ROWS[:12])
        for bad in OTHERS + (
            (("any",), ("num", 10000)), (("any",), ("num", True)), (("any",), ["none"]),
            (("below", -1), ("none",)), (("rest", 7, 7), ("none",)), (("known", (3, 3)), ("none",)),
            (("known", [3]), ("none",)), (("known", tuple(range(9))), ("none",)), ("any", "none"),
        ):
            self.check_bad_machine((bad,), 0)
            self.check_bad_machine(good[:4] + (bad,) + good[5:], 4)
            self.check_bad_machine(good[:11] + (bad, bad), 11)
            self.check_bad_machine(good + (bad,), 12)

    def test_a_thirteenth(self):
        good = tuple(row for row, _ in ROWS)
        self.check_bad_machine(good[:13], 12)
        self.check_bad_machine(good[:3] + (None,) + good[4:13], 3)


if __name__ == "__main__":
    unittest.main()
