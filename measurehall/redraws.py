"""Redraws: for each ranked machine one of its runs in each task, each as likely.

Ways are a list: in how many ways a machine's runs come to a total, from 0 on.
"""

from measurehall.ratios import smallest


def with_task(ways, weight, runs):
    """Tell the ways with one of the runs of a task more."""
    found = [0] * (len(ways) + weight * max([score for score, _ in runs]))
    for score, _ in runs:
        for total, many in enumerate(ways):
            found[total + weight * score] += many
    return found


def ways_of(brought):
    """Tell the ways of a ranked machine by what it brought (see standings)."""
    ways = [1]
    for weight, runs in brought:
        ways = with_task(ways, weight, runs)
    return ways


def spread_of(ways):
    """Tell (total, in how many ways), rising, of all totals that come."""
    return [(total, many) for total, many in enumerate(ways) if many > 0]


def by_many_ahead(total, others):
    """Tell in how many ways none, one, two .. of the others have a greater total."""
    found = [1]
    for ways in others:
        greater = sum(ways[total + 1:])
        rest = sum(ways) - greater
        found = [
            behind * rest + ahead * greater
            for behind, ahead in zip(found + [0], [0] + found)
        ]
    return found


def by_place(ways, others):
    """Tell in how many redraws a machine has each place, from the first on."""
    found = [0] * (len(others) + 1)
    for total, many in spread_of(ways):
        for at, rest in enumerate(by_many_ahead(total, others)):
            found[at] += many * rest
    return found


def shares_of(redraws):
    """Tell which share of them all each number of redraws is."""
    together = sum(redraws)
    return [smallest(many, together) for many in redraws]


def least_place(redraws, share):
    """Tell the least place such that no less than that share has one no greater."""
    over, under = share
    place = 1
    while sum(redraws[:place]) * under < over * sum(redraws):
        place += 1
    return place


def ahead_of(ways, other):
    """Tell in how many redraws of two machines one total is greater, the same, less."""
    greater = sum([many * sum(other[:total]) for total, many in enumerate(ways)])
    same = sum([many * rest for many, rest in zip(ways, other)])
    return [greater, same, sum(ways) * sum(other) - greater - same]
