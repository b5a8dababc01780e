"""Means and ranks, from what the runs of a machine come to.

What a machine brought is a list, for each task: (weight, runs), the runs that
count being (score, number). Its mean is reckoned in sixtieths, which are whole:
at most five runs of a machine and task count.
"""

SIXTIETHS = 60


def is_ranked(brought):
    """Tell whether there is a task, and a run that counts in each."""
    return len(brought) > 0 and all([len(runs) > 0 for _, runs in brought])


def weighted(weight, runs):
    """Tell in sixtieths what the runs of a task bring to the mean."""
    return weight * sum([score for score, _ in runs]) * (SIXTIETHS // len(runs))


def mean_of(brought):
    """Tell the mean of a ranked machine in sixtieths."""
    return sum([weighted(weight, runs) for weight, runs in brought])


def ranks_by(means):
    """Tell the rank of each name of which a mean is handed in."""
    return {
        name: 1 + len([other for other in means.values() if other > mean])
        for name, mean in means.items()
    }


def changes(before, now):
    """Tell (name, rank before, rank now) of all names whose ranks are unlike."""
    return [
        (name, before.get(name), now.get(name))
        for name in sorted({**before, **now})
        if before.get(name) != now.get(name)
    ]


def left_out(weight, runs):
    """Tell what a task's runs bring without the best none, one, two .. of them.

    Each is (what they bring, the numbers of those left out); one run stays.
    """
    best = sorted(runs, reverse=True)
    return [
        (weighted(weight, best[many:]), [number for _, number in best[:many]])
        for many in range(len(best))
    ]


def both_left_out(ones, others):
    """Tell the least mean of two such lists together, by how many are left out."""
    found = []
    for many in range(len(ones) + len(others) - 1):
        ways = [
            (ones[at][0] + others[many - at][0], ones[at][1] + others[many - at][1])
            for at in range(len(ones)) if 0 <= many - at < len(others)
        ]
        found.append(min(ways))
    return found


def fewest_to_turn(brought, mean):
    """Tell as few runs as can be without which no greater mean than that is left."""
    # Without any run in one of the tasks a machine isn't ranked.
    fewest = min([[number for _, number in runs] for _, runs in brought], key=len)
    least = [(0, [])]
    for weight, runs in brought:
        least = both_left_out(least, left_out(weight, runs))
    for left, numbers in least:
        if left <= mean and len(numbers) < len(fewest):
            fewest = numbers
    return tuple(sorted(fewest))
