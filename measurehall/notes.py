"""Written machines: a line for each row, there and back."""

from measurehall.errors import BadText
from measurehall.machines import MOST_ROWS, check_machine, is_row

FIGURES = "0123456789"
MOST_FIGURES = 4


def word_of(part):
    """Write a word, a number, or the numbers of known."""
    if isinstance(part, tuple):
        return ",".join([str(number) for number in part])
    return str(part)


def line_of(row):
    """Write a row."""
    test, answer = row
    return " ".join([word_of(part) for part in test + answer])


def written(machine):
    """Write a machine."""
    check_machine(machine)
    return "\n".join([line_of(row) for row in machine])


def number_in(word):
    """Tell the number that a word writes, None if it writes none."""
    figures = word.removeprefix("-")
    if not 1 <= len(figures) <= MOST_FIGURES:
        return None
    if not all([sign in FIGURES for sign in figures]):
        return None
    # A needless nought or minus is not written.
    if str(int(word)) != word:
        return None
    return int(word)


def answer_in(words):
    """Tell the answer that words write, its numbers as they come, or None."""
    match words:
        case ["none"]:
            return ("none",)
        case ["num" | "plus" | "times" | "rest", number]:
            return (words[0], number_in(number))
        case _:
            return None


def row_in(line):
    """Tell the row that a line writes, its numbers as they come, or None."""
    words = line.split(" ")
    match words:
        case ["any", *behind]:
            return (("any",), answer_in(behind))
        case ["below", bound, *behind]:
            return (("below", number_in(bound)), answer_in(behind))
        case ["rest" | "chance", divisor, left, *behind]:
            return ((words[0], number_in(divisor), number_in(left)), answer_in(behind))
        case ["known", numbers, *behind]:
            known = tuple([number_in(word) for word in numbers.split(",")])
            return (("known", known), answer_in(behind))
        case _:
            return None


def read(text):
    """Tell the machine that a text writes."""
    if not isinstance(text, str):
        raise BadText(0)
    rows = [row_in(line) for line in text.split("\n")]
    for at, row in enumerate(rows):
        if at == MOST_ROWS or not is_row(row):
            raise BadText(at)
    return tuple(rows)
