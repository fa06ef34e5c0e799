"""Lows and highs: between which bounds the gap of two neighbours stays where steps lead it.

A net of neighbours, a Duo or a Duet, has a seat and a beginning; `moves(thing)` tells the triples (signs, change,
thing) of the steps of a thing, a between or a double, and `has_form(thing)` whether a thing is one.
"""

from tailheard.checks import frozen, is_integer, is_tuple
from tailheard.sums import least_sums


def bounded_rows(net, order):
    """For each of all things in order, the row of the thing with its low and its high."""
    number = {thing: at for at, thing in enumerate(order)}
    falls = []
    rises = []
    for thing in order:
        for signs, change, onto in net.moves(thing):
            falls.append((number[thing], number[onto], change))
            rises.append((number[thing], number[onto], -change))
    lows = [None if worth is None else net.seat + worth for worth in least_sums(len(order), falls)]
    highs = [None if worth is None else net.seat - worth for worth in least_sums(len(order), rises)]
    return tuple([(*thing, lows[at], highs[at]) for thing, at in number.items()])


def least_low(rows):
    """The least low of some rows, None if one of them is None."""
    lows = [row[-2] for row in rows]
    return None if None in lows else min(lows)


def greatest_high(rows):
    """The greatest high of some rows, None if one of them is None."""
    highs = [row[-1] for row in rows]
    return None if None in highs else max(highs)


def is_bound(worth):
    """Whether something is None or an integer."""
    return worth is None or is_integer(worth)


def holds_seat(net, thing, low, high):
    """Whether a low and a high leave room for the seat, if this is the beginning."""
    if thing != net.origin:
        return True
    return (low is None or low <= net.seat) and (high is None or high >= net.seat)


def holds_steps(net, told, thing, low, high):
    """Whether what is told of the things behind leaves room for all that steps make of a low and a high."""
    for signs, change, onto in net.moves(thing):
        if onto not in told:
            return False
        further_low, further_high = told[onto]
        if further_low is not None and (low is None or further_low > low + change):
            return False
        if further_high is not None and (high is None or further_high < high + change):
            return False
    return True


def has_row_form(net, row):
    """Whether a row has the form of a thing with its low and its high."""
    many = len(net.origin)
    if not is_tuple(row, many + 2, many + 2) or not is_bound(row[many]) or not is_bound(row[many + 1]):
        return False
    return net.has_form(row[:many])


def judge_bounds(net, table):
    """What is wrong with a table of lows and highs, None if it is right."""
    rows = frozen(table)
    if not isinstance(rows, tuple):
        return -1
    many = len(net.origin)
    told = {}
    for row in rows:
        if has_row_form(net, row):
            told.setdefault(row[:many], row[many:])
    if net.origin not in told:
        return -1
    for at, row in enumerate(rows):
        if not has_row_form(net, row) or not holds_seat(net, row[:many], row[many], row[many + 1]):
            return at
        if not holds_steps(net, told, row[:many], row[many], row[many + 1]):
            return at
    return None
