"""Halls: tasks, machines and told runs, the ranks that follow, redraws and pages."""

from measurehall.deeds import check_deeds
from measurehall.errors import BadName, BadScore, BadShare, NoMachine, NoPage, NoRun, NotAhead
from measurehall.errors import NotRanked, NoTask, Taken, TooMany
from measurehall.machines import check_machine, check_seed, is_number
from measurehall.ratios import is_share, smallest
from measurehall.redraws import ahead_of, by_place, least_place, shares_of, spread_of, ways_of
from measurehall.standings import SIXTIETHS, changes, fewest_to_turn, is_ranked, mean_of, ranks_by
from measurehall.tasks import check_task, count_right

MOST_LETTERS = 6
MOST_TASKS = 4
MOST_MACHINES = 6
MOST_RUNS = 5


def check_name(name):
    """Refuse what is no name of one to six letters."""
    if not isinstance(name, str) or not 1 <= len(name) <= MOST_LETTERS:
        raise BadName("a name has one to six letters")
    if not all(["a" <= letter <= "z" for letter in name]):
        raise BadName("a name has letters from a to z")


def is_told(name, table):
    """Tell whether name is one of the table's, for other values may be no keys."""
    return isinstance(name, str) and name in table


class Hall:
    """Tasks, machines and told runs."""

    def __init__(self):
        self.tasks = {}
        self.machines = {}
        # By number, those that count: (machine, task, seed, score).
        self.runs = {}
        self.next_run = 0
        self.pages = []
        self.done = []
        self.dealing = False

    def check_machine_told(self, name):
        """Refuse what is no name of a machine here."""
        if not is_told(name, self.machines):
            raise NoMachine("no machine of that name")

    def check_ranked(self, name):
        """Refuse what is no name of a ranked machine here."""
        self.check_machine_told(name)
        if not is_ranked(self.brought(name)):
            raise NotRanked("the machine isn't ranked")

    def check_page(self, number):
        """Refuse what is no number of a page."""
        if not is_number(number, 0, len(self.pages) - 1):
            raise NoPage("no page of that number")

    def brought(self, name):
        """Tell what a machine brought (see standings)."""
        return [(task[1], self.runs_in(name, of_task)) for of_task, task in self.tasks.items()]

    def runs_in(self, name, of_task):
        """Tell (score, number) of the runs of a machine in a task that count."""
        return [
            (score, number) for number, (machine, task, _, score) in self.runs.items()
            if machine == name and task == of_task
        ]

    def means(self):
        """Tell the means of the ranked machines in sixtieths, names rising."""
        brought = {name: self.brought(name) for name in sorted(self.machines)}
        return {name: mean_of(brought[name]) for name in brought if is_ranked(brought[name])}

    def ranks_now(self):
        """Tell the ranks of the ranked machines by their names."""
        return ranks_by(self.means())

    def ways(self, name):
        """Tell the ways of a ranked machine (see redraws)."""
        return ways_of(self.brought(name))

    def places(self, name):
        """Tell in how many redraws a ranked machine has each place."""
        others = [self.ways(other) for other in self.means() if other != name]
        return by_place(self.ways(name), others)

    def come_to(self, machine, task, seed):
        """Tell the score to which a run comes now."""
        return count_right(self.machines[machine], self.tasks[task], seed)

    def score_anew(self, name):
        """Give all runs of a task that count the score to which they come now."""
        for number, (machine, task, seed, _) in list(self.runs.items()):
            if task == name:
                self.runs[number] = (machine, task, seed, self.come_to(machine, task, seed))

    def task(self, name, task):
        """Tell a task, a new one, or one in the place of another; tell what changes."""
        check_name(name)
        check_task(task)
        if name not in self.tasks and len(self.tasks) == MOST_TASKS:
            raise TooMany("there are four tasks")
        before = self.ranks_now()
        self.tasks[name] = task
        self.score_anew(name)
        self.done.append(("task", name, task))
        return changes(before, self.ranks_now())

    def machine(self, name, machine):
        """Tell a machine; no rank changes by it."""
        check_name(name)
        check_machine(machine)
        if name in self.machines:
            raise Taken("there is a machine of that name")
        if len(self.machines) == MOST_MACHINES:
            raise TooMany("there are six machines")
        self.machines[name] = machine
        self.done.append(("machine", name, machine))
        return []

    def tell(self, machine, task, seed, score):
        """Tell of a run and the score that it came to; tell its number."""
        self.check_machine_told(machine)
        if not is_told(task, self.tasks):
            raise NoTask("no task of that name")
        check_seed(seed)
        if not is_number(score, 0, len(self.tasks[task][0])):
            raise BadScore("a run comes from 0 to as many as there are questions")
        seeds = [run[2] for run in self.runs.values() if run[0] == machine and run[1] == task]
        if seed in seeds:
            raise Taken("there is a run of that machine, task and seed")
        if len(seeds) == MOST_RUNS:
            raise TooMany("there are five runs of that machine and task")
        number = self.next_run
        self.runs[number] = (machine, task, seed, score)
        self.next_run += 1
        self.done.append(("tell", machine, task, seed, score))
        return number

    def strike(self, number):
        """Make a run count no more; tell what changes."""
        if not is_number(number, 0, self.next_run - 1) or number not in self.runs:
            raise NoRun("no run of that number counts")
        before = self.ranks_now()
        del self.runs[number]
        self.done.append(("strike", number))
        return changes(before, self.ranks_now())

    def parted(self):
        """Tell (number, told, found) of the runs whose score isn't what they come to."""
        found = [
            (number, score, self.come_to(machine, task, seed))
            for number, (machine, task, seed, score) in self.runs.items()
        ]
        return [row for row in found if row[1] != row[2]]

    def clean(self):
        """Strike the parted runs; tell what changes."""
        before = self.ranks_now()
        numbers = [row[0] for row in self.parted()]
        for number in numbers:
            del self.runs[number]
        self.done.append(("clean",))
        return changes(before, self.ranks_now())

    def ranks(self):
        """Tell (rank, name, mean) of the ranked machines, by rank, then name."""
        means = self.means()
        ranks = ranks_by(means)
        return sorted([(ranks[name], name, smallest(means[name], SIXTIETHS)) for name in means])

    def spread(self, name):
        """Tell (total, in how many ways), rising, of a machine's redrawn runs."""
        self.check_ranked(name)
        return spread_of(self.ways(name))

    def shares(self, name):
        """Tell in which share of all redraws a machine has each place."""
        self.check_ranked(name)
        return shares_of(self.places(name))

    def holds(self, name):
        """Tell the share of redraws in which a machine's place is no greater than its rank."""
        self.check_ranked(name)
        places = self.places(name)
        return smallest(sum(places[:self.ranks_now()[name]]), sum(places))

    def ahead(self, one, other):
        """Tell the shares in which the first one's total is greater, the same, less."""
        self.check_ranked(one)
        self.check_ranked(other)
        # In a redraw a machine has one total, so none greater than its own.
        if one == other:
            return ((0, 1), (1, 1), (0, 1))
        return tuple(shares_of(ahead_of(self.ways(one), self.ways(other))))

    def sure(self, share):
        """Tell (name, place), the least place that holds in no less than that share."""
        if not is_share(share):
            raise BadShare("a share is (over, under), under from 1 to 1000")
        return [(name, least_place(self.places(name), share)) for name in self.means()]

    def turned(self, one, other):
        """Tell as few of the first one's runs as can be without which it isn't ahead."""
        self.check_ranked(one)
        self.check_ranked(other)
        means = self.means()
        if means[one] <= means[other]:
            raise NotAhead("the first mean isn't greater")
        return fewest_to_turn(self.brought(one), means[other])

    def publish(self):
        """Make a page of the ranks; tell its number."""
        self.pages.append(tuple(self.ranks()))
        self.done.append(("publish",))
        return len(self.pages) - 1

    def page(self, number):
        """Tell what ranks told when the page was made."""
        self.check_page(number)
        return list(self.pages[number])

    def stale(self, number):
        """Tell (name, rank there, rank now) of all whose rank is another one now."""
        self.check_page(number)
        there = {name: rank for rank, name, _ in self.pages[number]}
        return changes(there, self.ranks_now())

    def deeds(self):
        """Tell all that was done, in turn."""
        return list(self.done)

    def do(self, deed):
        """Do a deed; tell what it tells."""
        match deed:
            case ("task", name, task):
                return self.task(name, task)
            case ("machine", name, machine):
                return self.machine(name, machine)
            case ("tell", machine, task, seed, score):
                return self.tell(machine, task, seed, score)
            case ("strike", number):
                return self.strike(number)
            case ("clean",):
                return self.clean()
            case _:
                return self.publish()

    def deal(self, deeds):
        """Do all deeds or none; tell what each told."""
        check_deeds(deeds)
        tasks, machines, runs = dict(self.tasks), dict(self.machines), dict(self.runs)
        pages, done, next_run = list(self.pages), list(self.done), self.next_run
        was_dealing, is_whole = self.dealing, False
        self.dealing = True
        try:
            told = [self.do(deed) for deed in deeds]
            is_whole = True
        finally:
            self.dealing = was_dealing
            if not is_whole:
                self.tasks, self.machines, self.runs = tasks, machines, runs
                self.pages, self.done, self.next_run = pages, done, next_run
        return told

    def is_open(self):
        """Tell whether a deal is under way."""
        return self.dealing


def led(deeds):
    """Make a hall of deeds."""
    hall = Hall()
    hall.deal(deeds)
    return hall
