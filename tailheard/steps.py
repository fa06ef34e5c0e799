"""Columns in step: by how many ticks neighbours are apart in all columns of a column plan."""

from tailheard.checks import in_bounds, is_letter, is_tuple
from tailheard.errors import BadWithin
from tailheard.feet import hearing_of, ticks_apart
from tailheard.judges import judge_closed
from tailheard.plans import check_column_plan
from tailheard.trees import least_way, whole_tree

MOST_WITHIN = 30
MOST_PACE_STATES = 600
# What stands ahead of the first group, and what a search looks for: neither is a pace state.
NOBODY = ()
FOUND = (0,)


def check_within(within):
    """Raise BadWithin unless this is a number of ticks within which groups can be in step."""
    if not in_bounds(within, 0, MOST_WITHIN):
        raise BadWithin(within)


class PaceStates:
    """The pace states of a tune and a column plan."""

    def __init__(self, tune, plan):
        check_column_plan(tune.make, plan)
        self._tune = tune
        self._plan = plan
        self._hearing = hearing_of(tune)

    def beginnings(self):
        """The pairs (name, pace state) of all beginnings of columns of one group."""
        bands = self._tune.bands
        return [(name, (onto, name, *self._hearing.of_head(name in bands))) for name, onto in self._plan.states[0]]

    def moves(self, pace):
        """The triples (name, pace state, ticks) of the groups that can follow, with how far they are apart."""
        state, ahead, foot, far, band = pace
        found = []
        for name, onto in self._plan.states[state]:
            make = self._tune.make
            paces = make.body_of(ahead) + make.seat_of(ahead, name)
            told = self._hearing.of_next(foot, far, band, paces, name in self._tune.bands)
            found.append((name, (onto, name, *told), ticks_apart(self._tune.cycle, foot, told[0])))
        return found

    def ordered(self):
        """All pace states, ordered by the least beginnings; TooMany if there are more than 600."""
        def onward(pace):
            if pace == NOBODY:
                return self.beginnings()
            return [(name, onto) for name, onto, ticks in self.moves(pace)]

        # What stands ahead of the first group is found, too.
        return whole_tree(NOBODY, onward, MOST_PACE_STATES + 1, "pace").ordered()[1:]

    def least_column(self, least):
        """The least column with neighbours that are apart by at least so many ticks; there is one."""
        def onward(point):
            # Once neighbours are found, the state of the plan alone counts.
            if isinstance(point, int):
                return [(name, FOUND if onto in self._plan.ends else onto) for name, onto in self._plan.states[point]]
            if point == NOBODY:
                return self.beginnings()
            found = []
            for name, pace, ticks in self.moves(point):
                is_end = pace[0] in self._plan.ends
                found.append((name, pace if ticks < least else FOUND if is_end else pace[0]))
            return found

        return "".join(least_way(NOBODY, onward, FOUND))

    def first_apart(self, column, least):
        """The number of the first group that is apart from the one behind by at least so many ticks; there is one."""
        pace = [pace for name, pace in self.beginnings() if name == column[0]][0]
        number = 0
        while True:
            onto, ticks = [(onto, ticks) for name, onto, ticks in self.moves(pace) if name == column[number + 1]][0]
            if ticks >= least:
                return number
            pace = onto
            number = number + 1

    def has_form(self, thing):
        """Whether a thing has the form of a pace state."""
        if not is_tuple(thing, 5, 5) or not in_bounds(thing[0], 0, len(self._plan) - 1):
            return False
        if not is_letter(thing[1], self._tune.make.all_names) or not in_bounds(thing[2], 0, self._tune.cycle - 1):
            return False
        if thing[3] is None and thing[4] is None:
            return True
        return in_bounds(thing[3], 0, self._tune.earshot) and in_bounds(thing[4], 0, self._tune.cycle - 1)


class InStep:
    """Whether a column plan is in step: a table of pace states if it is, a column if not."""

    def __init__(self, tune, plan, within):
        paces = PaceStates(tune, plan)
        check_within(within)
        order = paces.ordered()
        is_apart = max([0, *[ticks for pace in order for name, onto, ticks in paces.moves(pace)]]) > within
        self.column = paces.least_column(within + 1) if is_apart else None
        self.number = paces.first_apart(self.column, within + 1) if is_apart else None
        self.table = None if is_apart else tuple(order)
        self._rows = self.table or ()

    def __bool__(self):
        return self.column is None

    def __len__(self):
        return len(self._rows)

    def __iter__(self):
        return iter(self._rows)


def judge_step(tune, plan, within, table):
    """What is wrong with a table of pace states, None if it is closed."""
    paces = PaceStates(tune, plan)
    check_within(within)

    def has_form(row):
        return paces.has_form(row)

    def is_right(told, row):
        return all([ticks <= within and onto in told for name, onto, ticks in paces.moves(row)])

    return judge_closed(table, [pace for name, pace in paces.beginnings()], has_form, is_right)


def worst(tune, plan):
    """By how many ticks neighbours are apart at most, and the least column in which some are; 0 and None if none."""
    paces = PaceStates(tune, plan)
    ticks = [ticks for pace in paces.ordered() for name, onto, ticks in paces.moves(pace)]
    if not ticks:
        return (0, None)
    return (max(ticks), paces.least_column(max(ticks)))


def feet_behind(onward, order, foot):
    """The feet of all groups that can stand behind one with a foot, as a dict."""
    found = {}
    queue = [pace for pace in order if pace[2] == foot]
    while queue:
        here = queue.pop()
        for pace in onward[here]:
            if pace not in found:
                found[pace] = True
                queue.append(pace)
    return {pace[2]: True for pace in found}


def spread(tune, plan):
    """By how many ticks any two groups of a column are apart at most."""
    paces = PaceStates(tune, plan)
    order = paces.ordered()
    onward = {pace: [onto for name, onto, ticks in paces.moves(pace)] for pace in order}
    most = 0
    for foot in sorted(set([pace[2] for pace in order])):
        for other in feet_behind(onward, order, foot):
            most = max(most, ticks_apart(tune.cycle, foot, other))
    return most
