"""What several tests use: values of another kind, and a hall reckoned slowly.

The slow hall shares no line with the package: it runs machines by itself,
reckons with fractions, and lays all redraws and all sets of runs out.
"""

from fractions import Fraction
from itertools import combinations, product

# Values that are no number, no tuple of pairs, no list of deeds.
OTHERS = (
    True, False, None, -1, -(10**30), 10**30, "", "5", "0", "any none", "10000",
    (), (5,), (True,), (None,), ("5",), ((),), (5, 6, 7), [], [5], [None], [[]], [("any",)],
)
NUMBERS = (-2, -1, 0, 1, 2, 5, 1000, 10000, 10**30)
NOT_NAMES = (
    True, False, None, 0, 1, -1, 10**30, "", "abcdefg", "abcdefgh", "A", "aB", "Ab", "a1", "1", "a b",
    " a", "a ", "a\n", "\n", "-", "a-b", "a_b", "_", "`", "{", "@", "[", "\u00e4", "\u00df", "\uff41", "\u0430",
    (), ("a",), ("a", "b"), (None,), [], ["a"], ["a", "b"], [["a"]], [None], [("a",)],
)


def slow_test(test, question, seed):
    if test[0] == "below":
        return question < test[1]
    if test[0] == "rest":
        return question % test[1] == test[2]
    if test[0] == "chance":
        return (7 * question + 13 * seed) % test[1] == test[2]
    if test[0] == "known":
        return question in test[1]
    return test == ("any",)


def slow_answer(machine, question, seed):
    for test, answer in machine:
        if slow_test(test, question, seed):
            if answer[0] == "none":
                return None
            return {
                "num": answer[1],
                "plus": question + answer[1],
                "times": question * answer[1],
                "rest": question % answer[1] if answer[0] == "rest" else None,
            }[answer[0]]
    return None


def slow_right(machine, task, seed):
    return tuple(
        at for at, (question, due, _) in enumerate(task[0])
        if slow_answer(machine, question, seed) == due
    )


def pair(share):
    """A fraction as it is told."""
    return (share.numerator, share.denominator)


class Slow:
    """A hall made of deeds none of which is refused, and asked slowly."""

    def __init__(self, deeds=()):
        self.tasks, self.machines, self.runs, self.pages, self.done = {}, {}, [], [], []
        for deed in deeds:
            self.do(deed)

    def score(self, run):
        return len(slow_right(self.machines[run["machine"]], self.tasks[run["task"]], run["seed"]))

    def counting(self, machine=None, task=None):
        return [
            run for run in self.runs
            if run["counts"] and machine in (None, run["machine"]) and task in (None, run["task"])
        ]

    def do(self, deed):
        """Do a deed; tell what it tells."""
        self.done.append(deed)
        before = self.rank_of()
        word = deed[0]
        if word == "machine":
            self.machines[deed[1]] = deed[2]
            return []
        if word == "tell":
            self.runs.append({
                "number": len(self.runs), "machine": deed[1], "task": deed[2],
                "seed": deed[3], "score": deed[4], "counts": True,
            })
            return len(self.runs) - 1
        if word == "publish":
            self.pages.append(self.ranks())
            return len(self.pages) - 1
        if word == "task":
            self.tasks[deed[1]] = deed[2]
            for run in self.counting(task=deed[1]):
                run["score"] = self.score(run)
        if word == "strike":
            self.runs[deed[1]]["counts"] = False
        if word == "clean":
            for number, _, _ in self.parted():
                self.runs[number]["counts"] = False
        return self.changes(before)

    def changes(self, before):
        now = self.rank_of()
        return [
            (name, before.get(name), now.get(name))
            for name in sorted(self.machines) if before.get(name) != now.get(name)
        ]

    def parted(self):
        return [
            (run["number"], run["score"], self.score(run))
            for run in self.counting() if run["score"] != self.score(run)
        ]

    def mean(self, name, without=()):
        """The mean without some runs, None for not ranked."""
        if not self.tasks:
            return None
        mean = Fraction(0)
        for task, (_, weight) in self.tasks.items():
            runs = [run["score"] for run in self.counting(name, task) if run["number"] not in without]
            if not runs:
                return None
            mean += weight * Fraction(sum(runs), len(runs))
        return mean

    def ranks(self):
        means = {name: self.mean(name) for name in self.machines if self.mean(name) is not None}
        return sorted(
            (1 + sum(other > mean for other in means.values()), name, pair(mean))
            for name, mean in means.items()
        )

    def rank_of(self):
        return {name: rank for rank, name, _ in self.ranks()}

    def stale(self, number):
        return self.changes({name: rank for rank, name, _ in self.pages[number]})

    def totals(self, name):
        """The totals of a machine, one for each way to draw its runs."""
        tasks = sorted(self.tasks)
        drawn = product(*[[run["score"] for run in self.counting(name, task)] for task in tasks])
        return [
            sum(self.tasks[task][1] * score for task, score in zip(tasks, scores)) for scores in drawn
        ]

    def spread(self, name):
        totals = self.totals(name)
        return [(total, totals.count(total)) for total in sorted(set(totals))]

    def redraws(self):
        """All redraws, laid out one by one, as totals by names."""
        names = sorted(self.rank_of())
        for totals in product(*[self.totals(name) for name in names]):
            yield dict(zip(names, totals))

    def redrawn(self):
        """For each ranked machine in how many redraws it has each place; how many they are.

        Also, for each two, in how many the first one's total is greater, the same, less.
        """
        names = sorted(self.rank_of())
        places = {name: [0] * len(names) for name in names}
        ahead = {(one, other): [0, 0, 0] for one in names for other in names}
        many = 0
        for totals in self.redraws():
            many += 1
            for one in names:
                places[one][sum(totals[other] > totals[one] for other in names)] += 1
                for other in names:
                    if totals[one] > totals[other]:
                        ahead[one, other][0] += 1
                    elif totals[one] == totals[other]:
                        ahead[one, other][1] += 1
                    else:
                        ahead[one, other][2] += 1
        return places, ahead, many

    def fewest(self, one, other):
        """How few runs turn two machines, by all sets of runs, and all sets of as few."""
        numbers = [run["number"] for run in self.counting(one)]
        for many in range(len(numbers) + 1):
            sets = [chosen for chosen in combinations(numbers, many) if self.is_turned(one, other, chosen)]
            if sets:
                return many, sets
        return None

    def is_turned(self, one, other, without):
        mean = self.mean(one, without)
        return mean is None or mean <= self.mean(other)


def told(hall):
    """All that a hall tells that isn't asked by a name."""
    pages = []
    while True:
        try:
            pages.append((hall.page(len(pages)), hall.stale(len(pages))))
        except ValueError:
            break
    return (
        hall.ranks(), hall.parted(), hall.deeds(), pages, hall.is_open(), hall.sure((1, 2)),
        [(hall.spread(name), hall.shares(name), hall.holds(name)) for _, name, _ in hall.ranks()],
    )


DOUBLE = ((("any",), ("times", 2)),)
SILENT = ((("any",), ("none",)),)
MOODY = ((("chance", 3, 1), ("times", 2)), (("known", (2, 4, 8)), ("none",)), (("any",), ("num", 6)))
QUESTIONS = tuple((n, 2 * n, None) for n in range(16))
TASKS = ("ta", "tb", "tc", "td")
MACHINES = ("a", "b", "c", "d", "e", "f")


def deeds_of(weights, scores):
    """Deeds of a task for each weight, and of a machine for each of scores.

    For each machine and each task scores has the scores that its runs are told to
    come to, by seeds from 0.
    """
    deeds = [("task", name, (QUESTIONS, weight)) for name, weight in zip(TASKS, weights)]
    for name, by_task in zip(MACHINES, scores):
        deeds.append(("machine", name, DOUBLE))
        for task, runs in zip(TASKS, by_task):
            deeds.extend(("tell", name, task, seed, score) for seed, score in enumerate(runs))
    return deeds


def do(hall, deed):
    """Do a deed by the method that it is named after."""
    return getattr(hall, deed[0])(*deed[1:])


def any_task(chance):
    questions = chance.sample(range(12), chance.randint(1, 4))
    return (tuple((q, chance.choice((2 * q, 6, q)), None) for q in questions), chance.randint(1, 3))


def any_machine(chance):
    divisor = chance.randint(2, 4)
    return (
        (("chance", divisor, chance.randrange(divisor)), chance.choice((("times", 2), ("none",)))),
        (("any",), chance.choice((("num", 6), ("times", 2), ("plus", 0)))),
    )


def any_deed(slow, chance):
    """A deed that a hall in the state of the slow one doesn't refuse, by chance."""
    word = chance.choice(("task", "machine", "tell", "tell", "tell", "tell", "tell", "strike", "clean", "publish"))
    counting = slow.counting()
    if word == "task":
        names = sorted(slow.tasks) if len(slow.tasks) == 4 else TASKS[:3]
        return ("task", chance.choice(names), any_task(chance))
    if word == "machine" and len(slow.machines) < 6:
        return ("machine", MACHINES[len(slow.machines)], any_machine(chance))
    if word == "strike" and counting:
        return ("strike", chance.choice(counting)["number"])
    if word in ("clean", "publish") and chance.random() < 0.3:
        return (word,)
    if slow.tasks and slow.machines:
        machine, task = chance.choice(sorted(slow.machines)), chance.choice(sorted(slow.tasks))
        there = slow.counting(machine, task)
        if len(there) < 5:
            seeds = [seed for seed in range(12) if seed not in [run["seed"] for run in there]]
            seed = chance.choice(seeds)
            right = len(slow_right(slow.machines[machine], slow.tasks[task], seed))
            score = chance.choice((right, right, chance.randint(0, len(slow.tasks[task][0]))))
            return ("tell", machine, task, seed, score)
    return any_deed(slow, chance)
