"""Feet: how groups walk by a beat that they hear late."""

from tailheard.checks import in_bounds, is_rising, is_text
from tailheard.errors import BadBands, BadCycle, BadEar, BadRelay, BadSlow, Unlike

MOST_SLOW = 12
LEAST_CYCLE = 2
MOST_CYCLE = 60
MOST_EAR = 60


def check_slow(slow):
    """Raise BadSlow unless a beat can need so many ticks for one pace."""
    if not in_bounds(slow, 0, MOST_SLOW):
        raise BadSlow(slow)


def check_cycle(cycle):
    """Raise BadCycle unless there can be so many ticks from one beat to the next."""
    if not in_bounds(cycle, LEAST_CYCLE, MOST_CYCLE):
        raise BadCycle(cycle)


def check_ear(ear):
    """Raise BadEar unless this is an earshot."""
    if not in_bounds(ear, 0, MOST_EAR):
        raise BadEar(ear)


def check_relay(relay):
    """Raise BadRelay unless this is True or False."""
    if relay is not True and relay is not False:
        raise BadRelay(relay)


class Hearing:
    """How a beat is heard along a column: slow, cycle, earshot and relay.

    What a group hears of the last band is told by `far` and `band`: the number of paces from the front of the last
    band to its own front, and the foot of that band, both None if it hears none.
    """

    def __init__(self, slow, cycle, earshot, relay):
        self.cycle = cycle
        self._slow = slow
        self._earshot = earshot
        self._relay = relay

    def of_head(self, has_band):
        """The foot of the head, and the last band at its place: its own, if it has one."""
        if has_band:
            return 0, 0, 0
        return 0, None, None

    def of_next(self, foot, far, band, paces, has_band):
        """The same of the group so many paces behind one of which it is told."""
        hears = far is not None and far + paces <= self._earshot
        heard = (band + self._slow * (far + paces)) % self.cycle if hears else None
        if has_band:
            own = heard if hears and self._relay else 0
            return own, 0, own
        if hears:
            return heard, far + paces, band
        return foot, None, None

    def along(self, fronts, bands):
        """For each group of a column its foot and the last band at its place; `bands` tells which groups have one."""
        found = [self.of_head(bands[0])]
        for at in range(1, len(fronts)):
            foot, far, band = found[-1]
            found.append(self.of_next(foot, far, band, fronts[at - 1] - fronts[at], bands[at]))
        return found


def ticks_apart(cycle, first, second):
    """By how many ticks one foot must be put later or earlier to be another one, whole cycles not counting."""
    ticks = (first - second) % cycle
    return min([ticks, cycle - ticks])


class Tune:
    """A make, the kinds whose groups have bands, slow, a cycle, an earshot and relay."""

    def __init__(self, make, bands, slow, cycle, earshot, relay=False):
        if not is_text(bands, make.all_names, 0, len(make)) or not is_rising(bands):
            raise BadBands(bands)
        check_slow(slow)
        check_cycle(cycle)
        check_ear(earshot)
        check_relay(relay)
        self.make = make
        self.bands = bands
        self.slow = slow
        self.cycle = cycle
        self.relay = relay
        self._ear = earshot

    def __eq__(self, other):
        if not isinstance(other, Tune) or not self.make == other.make or self.bands != other.bands:
            return False
        one = (self.slow, self.cycle, self.earshot, self.relay)
        return one == (other.slow, other.cycle, other.earshot, other.relay)

    @property
    def earshot(self):
        """At how many paces behind its front a band is still heard."""
        return self._ear

    @earshot.setter
    def earshot(self, value):
        check_ear(value)
        self._ear = value

    @staticmethod
    def apart(cycle, first, second):
        """By how many ticks two feet are apart."""
        return ticks_apart(cycle, first, second)

    def feet(self, column):
        """The feet of a column."""
        check_column(self, column)
        bands = [name in self.bands for name in column]
        return tuple([foot for foot, far, band in hearing_of(self).along(column.front_row, bands)])


def hearing_of(tune):
    """How the beat of a tune is heard."""
    return Hearing(tune.slow, tune.cycle, tune.earshot, tune.relay)


def check_column(tune, column):
    """Raise Unlike unless a column is of an equal make."""
    if not tune.make == column.make:
        raise Unlike("make")


def feet_with(tune, column, earshot):
    """The feet of a column when the tune has been given an earshot."""
    tune.earshot = earshot
    return tune.feet(column)


def feet_at(tune, column, earshots):
    """The feet of a column for each of some earshots; the tune has its own one behind it."""
    check_column(tune, column)
    held = tune.earshot
    try:
        told = tuple([feet_with(tune, column, earshot) for earshot in earshots])
    finally:
        # It was an earshot before, so it need not be judged again.
        tune._ear = held
    return told
