"""Machines: rows of a test and an answer, run by a question and a seed."""

from measurehall.errors import BadMachine, BadQuestion, BadSeed

LAST_QUESTION = 9999
LAST_SEED = 999
MOST_ROWS = 12
MOST_KNOWN = 8
LEAST_DIVISOR = 2
MOST_DIVISOR = 99
MOST_IN_ANSWER = 9999


def is_number(value, low, high):
    """Tell whether value is a whole number from low to high."""
    # For Python True and False are integers; for the document they are no numbers.
    if isinstance(value, bool) or not isinstance(value, int):
        return False
    return low <= value <= high


def is_question(value):
    """Tell whether value is a question."""
    return is_number(value, 0, LAST_QUESTION)


def is_seed(value):
    """Tell whether value is a seed."""
    return is_number(value, 0, LAST_SEED)


def is_divisor(value):
    """Tell whether a row may ask what a question leaves by value."""
    return is_number(value, LEAST_DIVISOR, MOST_DIVISOR)


def is_known(numbers):
    """Tell whether numbers is a rising tuple of one to eight questions."""
    if not isinstance(numbers, tuple) or not 1 <= len(numbers) <= MOST_KNOWN:
        return False
    if not all([is_question(number) for number in numbers]):
        return False
    return all([one < other for one, other in zip(numbers, numbers[1:])])


def is_test(test):
    """Tell whether test can be the test of a row."""
    # The patterns below take lists, too.
    if not isinstance(test, tuple):
        return False
    match test:
        case ("any",):
            return True
        case ("below", bound):
            return is_question(bound)
        case ("rest" | "chance", divisor, rest):
            return is_divisor(divisor) and is_number(rest, 0, divisor - 1)
        case ("known", numbers):
            return is_known(numbers)
        case _:
            return False


def is_answer(answer):
    """Tell whether answer can be the answer of a row."""
    # The patterns below take lists, too.
    if not isinstance(answer, tuple):
        return False
    match answer:
        case ("num" | "plus" | "times", number):
            return is_number(number, -MOST_IN_ANSWER, MOST_IN_ANSWER)
        case ("rest", divisor):
            return is_divisor(divisor)
        case ("none",):
            return True
        case _:
            return False


def is_row(row):
    """Tell whether row can be a row of a machine."""
    if not isinstance(row, tuple) or len(row) != 2:
        return False
    return is_test(row[0]) and is_answer(row[1])


def check_machine(machine):
    """Refuse what is no machine, by its first row that can't be."""
    if not isinstance(machine, tuple) or len(machine) == 0:
        raise BadMachine(-1)
    for at, row in enumerate(machine):
        if at == MOST_ROWS or not is_row(row):
            raise BadMachine(at)


def check_question(question):
    """Refuse what is no question."""
    if not is_question(question):
        raise BadQuestion("a question is a number from 0 to 9999")


def check_seed(seed):
    """Refuse what is no seed."""
    if not is_seed(seed):
        raise BadSeed("a seed is a number from 0 to 999")


def does_hold(test, question, seed):
    """Tell whether the test of a row holds for a question by a seed."""
    match test:
        case ("any",):
            return True
        case ("below", bound):
            return question < bound
        case ("rest", divisor, rest):
            return question % divisor == rest
        case ("chance", divisor, rest):
            return (7 * question + 13 * seed) % divisor == rest
        case ("known", numbers):
            return question in numbers
        case _:
            return False


def outcome(answer, question):
    """Tell what the answer of a row comes to for a question."""
    match answer:
        case ("num", number):
            return number
        case ("plus", number):
            return question + number
        case ("times", number):
            return question * number
        case ("rest", divisor):
            return question % divisor
        case _:
            return None


def run(machine, question, seed):
    """Tell what a machine answers, all that is handed in being checked."""
    for test, answer in machine:
        if does_hold(test, question, seed):
            return outcome(answer, question)
    return None


def answered(machine, question, *, seed=0):
    """Tell what a machine answers a question by a seed, or None."""
    check_machine(machine)
    check_question(question)
    check_seed(seed)
    return run(machine, question, seed)
