"""Tasks: questions with what is due, and a weight; what a machine answers right."""

from math import comb

from measurehall.errors import BadTask
from measurehall.machines import check_machine, check_seed, is_number, is_question, run

MOST_QUESTIONS = 16
MOST_DUE = 99999999
MOST_WEIGHT = 9


def is_due(value):
    """Tell whether value can be due to a question."""
    return is_number(value, -MOST_DUE, MOST_DUE)


def is_twin(twin):
    """Tell whether twin can be the twin of a question, None or (question, due)."""
    if twin is None:
        return True
    if not isinstance(twin, tuple) or len(twin) != 2:
        return False
    return is_question(twin[0]) and is_due(twin[1])


def is_asked(asked):
    """Tell whether asked is a (question, due, twin)."""
    if not isinstance(asked, tuple) or len(asked) != 3:
        return False
    return is_question(asked[0]) and is_due(asked[1]) and is_twin(asked[2])


def is_framed(task):
    """Tell whether task is some questions and a weight, whatever the questions are."""
    if not isinstance(task, tuple) or len(task) != 2:
        return False
    questions, weight = task
    if not isinstance(questions, tuple) or len(questions) == 0:
        return False
    return is_number(weight, 1, MOST_WEIGHT)


def check_task(task):
    """Refuse what is no task, by its first question that can't be."""
    if not is_framed(task):
        raise BadTask(-1)
    found = set()
    for at, asked in enumerate(task[0]):
        if at == MOST_QUESTIONS or not is_asked(asked) or asked[0] in found:
            raise BadTask(at)
        found.add(asked[0])


def right_ones(machine, task, seed):
    """Tell the numbers of the questions answered right, all being checked."""
    return [
        at for at, (question, due, _) in enumerate(task[0])
        if run(machine, question, seed) == due
    ]


def count_right(machine, task, seed):
    """Tell to which score a run comes, all that is handed in being checked."""
    return len(right_ones(machine, task, seed))


def check_run(machine, task, seed):
    """Refuse what is no machine, no task or no seed, in this order."""
    check_machine(machine)
    check_task(task)
    check_seed(seed)


def right(machine, task, *, seed=0):
    """Tell the numbers of the questions that a machine answers right."""
    check_run(machine, task, seed)
    return tuple(right_ones(machine, task, seed))


def score(machine, task, *, seed=0):
    """Tell how many questions a machine answers right."""
    check_run(machine, task, seed)
    return count_right(machine, task, seed)


def heart(machine, task, *, seed=0):
    """Tell how the right answers lie on questions that have twins and on the twins.

    It is (how many twins there are, how many of their questions are answered
    right, how many of the twins are, ways, all): of all ways to lay as many
    right answers, those that lay no fewer on the questions.
    """
    check_run(machine, task, seed)
    paired = [(question, due, twin) for question, due, twin in task[0] if twin is not None]
    many = len(paired)
    here = len([due for question, due, _ in paired if run(machine, question, seed) == due])
    there = len([twin for _, _, twin in paired if run(machine, twin[0], seed) == twin[1]])
    ways = [
        comb(many, laid) * comb(many, here + there - laid)
        for laid in range(here, here + there + 1)
    ]
    return (many, here, there, sum(ways), comb(2 * many, here + there))
