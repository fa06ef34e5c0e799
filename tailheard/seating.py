"""Seating: in which order some groups make the shortest column in which all stand at their needs."""

from tailheard.checks import check_least, frozen, is_integer, is_letter, is_tuple, misplaced
from tailheard.errors import BadColumn
from tailheard.needs import need
from tailheard.plans import check_calls

MOST_SEATED = 7


class Room:
    """The groups to be seated, and what each one needs ahead of each other one and for itself.

    Attributes: the groups, and the bodies at rest by their names.
    """

    def __init__(self, make, calls, least, groups):
        check_calls(make, calls)
        check_least(least)
        wrong = misplaced(groups, make.all_names, 1, MOST_SEATED)
        if wrong is not None:
            raise BadColumn(wrong)
        names = sorted(set(groups))
        self.groups = groups
        self.bodies = {name: make.body_of(name) for name in names}
        self._needs = {}
        for one in names:
            for two in names:
                if one != two or groups.count(one) > 1:
                    self._needs[(one, two)] = need(make, one, two, calls, least)

    def onward(self, used, last):
        """The parts with one group more behind a part, each with the paces that this group adds."""
        found = []
        for name in self.bodies:
            if used.count(name) < self.groups.count(name) and self._needs[(last, name)] is not None:
                part = ("".join(sorted(used + name)), name)
                found.append((part, self._needs[(last, name)] + self.bodies[name]))
        return found

    def has_form(self, row):
        """Whether a row has the form of a part and a bound."""
        if not is_tuple(row, 3, 3) or not isinstance(row[0], str) or not is_integer(row[2]):
            return False
        used = row[0]
        if not all([used.count(name) <= self.groups.count(name) for name in used]):
            return False
        return list(used) == sorted(used) and is_letter(row[1], used)


def best_parts(room):
    """For each part with a seated column, the least pair of its length and the column itself."""
    best = {(name, name): (room.bodies[name], name) for name in room.bodies}
    layer = sorted(best)
    while layer:
        further = {}
        for part in layer:
            length, column = best[part]
            for onto, paces in room.onward(part[0], part[1]):
                pair = (length + paces, column + onto[1])
                further[onto] = min(further.get(onto, pair), pair)
        for part in further:
            best[part] = further[part]
        layer = sorted(further)
    return best


class Seating:
    """The least length of all orders in which some groups can be seated, with the bounds of all parts."""

    def __init__(self, make, calls, least, groups):
        best = best_parts(Room(make, calls, least, groups))
        parts = sorted([(len(used), used, last) for used, last in best])
        ready = sorted([best[part] for part in best if len(part[0]) == len(groups)])
        self.length = ready[0][0] if ready else None
        self.column = ready[0][1] if ready else None
        self.table = tuple([(used, last, best[(used, last)][0]) for many, used, last in parts])

    def __len__(self):
        return len(self.table)

    def __iter__(self):
        return iter(self.table)


def has_beginning(room, bounds):
    """Whether each group alone has a bound that is at most its body at rest."""
    return all([(name, name) in bounds and bounds[(name, name)] <= room.bodies[name] for name in room.bodies])


def is_right(room, bounds, row):
    """Whether a row with the form told is right by itself."""
    for part, paces in room.onward(row[0], row[1]):
        if part not in bounds or bounds[part] > row[2] + paces:
            return False
    return True


def judge_seating(make, calls, least, groups, table):
    """What is wrong with a table of bounds, None if it is right."""
    room = Room(make, calls, least, groups)
    rows = frozen(table)
    if not isinstance(rows, tuple):
        return -1
    bounds = {}
    for row in rows:
        if room.has_form(row):
            bounds.setdefault(row[:2], row[2])
    if not has_beginning(room, bounds):
        return -1
    for at, row in enumerate(rows):
        if not room.has_form(row) or not is_right(room, bounds, row):
            return at
    return None
