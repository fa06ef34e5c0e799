"""Maps of some states to one another, told as lists: for the number of each state that of the one it leads to."""

from math import lcm


def joined(one, two):
    """The map that leads by a map and then by another one."""
    return [two[onto] for onto in one]


def tail_and_period(row):
    """The least lag and period of a map: from the lag on, so many passes and a period more lead to the same.

    Of all periods the least one is told, and of all lags the least one for it.
    """
    passes_left = {}
    period = 1
    for start in range(len(row)):
        trail = []
        place = {}
        now = start
        while now not in passes_left and now not in place:
            place[now] = len(trail)
            trail.append(now)
            now = row[now]
        if now in place:
            period = lcm(period, len(trail) - place[now])
            for at in trail[place[now]:]:
                passes_left[at] = 0
            trail = trail[:place[now]]
        many = passes_left[now]
        for at in trail[::-1]:
            many = many + 1
            passes_left[at] = many
    return max(list(passes_left.values())), period


def least_alike(number, lag, period):
    """The least number that is the same from the lag on, whole periods not counting."""
    if number < lag:
        return number
    return lag + (number - lag) % period


def tuples_below(limits):
    """All tuples of integers from 0, each below its limit, ascending."""
    rows = [()]
    for limit in limits:
        rows = [(*row, number) for row in rows for number in range(limit)]
    return rows


def choices_below(many):
    """All ascending tuples of numbers below so many, ordered by length, then as tuples."""
    found = [()]
    layer = found[:]
    while layer:
        layer = [(*choice, number) for choice in layer for number in range(many)
                 if not choice or number > choice[-1]]
        found = [*found, *layer]
    return found


def product_of(limits):
    """The product of some integers."""
    whole = 1
    for limit in limits:
        whole = whole * limit
    return whole
