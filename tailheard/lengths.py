"""Lengths of all columns of a column plan, however long."""

from tailheard.checks import in_bounds, is_integer
from tailheard.columns import MOST_GROUPS, Column
from tailheard.errors import BadColumn, NoLength, TooMany
from tailheard.plans import check_column_plan

FIRST_SITUATION = 12
LAST_SITUATION = 999
WINDOW = 52
MOST_LENGTH = 900


def begun(make, plan):
    """For each length of a column of one group, what of the plan stands there."""
    return [(make.body_of(name), (state, name)) for name, state in plan.states[0]]


def points_behind(make, plan, point):
    """What can stand behind a beginning of a column: how many paces are added, and the point behind it."""
    state, last = point
    return [(make.seat_of(last, name) + make.body_of(name), (onto, name)) for name, onto in plan.states[state]]


class Stock:
    """The points (state, name) of the beginnings of columns, length by length, as far as they have been told."""

    def __init__(self, make, plan):
        self.make = make
        self.plan = plan
        self.points = [{} for length in range(LAST_SITUATION + WINDOW + 1)]
        for length, point in begun(make, plan):
            self.points[length][point] = True

    def spread(self, length):
        """Tell which points stand behind those of a length."""
        for point in list(self.points[length]):
            for paces, onto in points_behind(self.make, self.plan, point):
                self.points[length + paces][onto] = True

    def is_length(self, length):
        """Whether a column of the plan has this length."""
        return any([state in self.plan.ends for state, name in self.points[length]])


def repeated(stock):
    """The first two situations that are the same."""
    numbers = {(): 0}
    row = [0] * WINDOW
    seen = {}
    for length in range(LAST_SITUATION + 1):
        points = tuple(sorted(stock.points[length]))
        row = [*row[1:], numbers.setdefault(points, len(numbers))]
        if length >= FIRST_SITUATION:
            if tuple(row) in seen:
                return seen[tuple(row)], length
            seen[tuple(row)] = length
        stock.spread(length)
    raise TooMany("length")


def least_period(flags, lag):
    """The least period of the flags from the lag on, where their number behind it is a period."""
    whole = len(flags) - lag
    for period in range(1, whole):
        if whole % period == 0 and flags[lag:-period] == flags[lag + period:]:
            return period
    return whole


def least_lag(flags, lag, period):
    """The least lag from which on the flags have a period that they have from the lag on."""
    while lag > 0 and flags[lag - 1] == flags[lag - 1 + period]:
        lag = lag - 1
    return lag


class Lengths:
    """The lengths at rest of the columns of a column plan."""

    def __init__(self, make, plan):
        check_column_plan(make, plan)
        stock = Stock(make, plan)
        early, late = repeated(stock)
        flags = [stock.is_length(length) for length in range(late + 1)]
        # The windows are the same, so the points are already the same at the lengths at which they begin.
        lag = max(0, early - WINDOW + 1)
        period = least_period(flags[:lag + late - early], lag)
        self.make = make
        self.plan = plan
        self.lag = least_lag(flags, lag, period)
        self.period = period
        self.first = tuple([length for length in range(self.lag + period) if flags[length]])

    def __contains__(self, length):
        if not is_integer(length):
            return False
        if length >= self.lag + self.period:
            return self.lag + (length - self.lag) % self.period in self.first
        return length in self.first

    def column_of(self, length):
        """The least column that has a length."""
        if not in_bounds(length, 0, MOST_LENGTH) or length not in self:
            raise NoLength(length)
        return Column(self.make, least_groups(self.make, self.plan, length))


def next_layer(make, plan, length, layer, seen):
    """The points first met one group behind those of a layer, up to a length, each with the least string to it."""
    further = {}
    for key in layer:
        for paces, point in points_behind(make, plan, key[1]):
            onto = (key[0] + paces, point)
            if onto[0] <= length and onto not in seen and onto not in further:
                further[onto] = layer[key] + point[1]
    return further


def least_groups(make, plan, length):
    """The least string of names with a length, where there is one; BadColumn if it has too many groups."""
    layer = {(paces, point): point[1] for paces, point in begun(make, plan)}
    seen = {}
    for _ in range(MOST_GROUPS):
        for key in layer:
            if key[0] == length and key[1][0] in plan.ends:
                return layer[key]
        for key in layer:
            seen[key] = True
        layer = next_layer(make, plan, length, layer, seen)
    raise BadColumn(-1)
