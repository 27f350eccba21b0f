"""Waits: what a single server that is never idle while a job waits leaves waiting.

A table has a row for each slot, with the number of the jobs of each class that arrive in it.
"""


def backlogs(rows, group):
    """Return how many jobs of the group wait at the end of each slot if the group goes before all other classes."""
    found = []
    waiting = 0
    for row in rows:
        waiting = max(0, waiting + sum([row[at] for at in group]) - 1)
        found.append(waiting)
    return found


def least_total(rows, group):
    """Return the total wait of the jobs of the group if the group goes before all other classes."""
    found = backlogs(rows, group)
    # After the table one job less waits at the end of each slot.
    last = found[-1] if found else 0
    return sum(found) + last * (last - 1) // 2


def groups_of(many):
    """Return the groups of the first so many classes."""
    groups = [[]]
    for at in range(many):
        groups = groups + [group + [at] for group in groups]
    return groups


def tightest(rows, limits, group):
    """Return a pair of the greatest excess and the smallest list of classes with limits that leads to it.

    The limits are those of the first classes. The excess of some of these classes is the least total of them and of
    the group, which has other classes, minus their limits.
    """
    excesses = []
    for limited in groups_of(len(limits)):
        excess = least_total(rows, limited + group) - sum([limits[at] for at in limited])
        excesses.append((excess, -len(limited), limited))
    greatest, _, smallest = max(excesses)
    return greatest, smallest
