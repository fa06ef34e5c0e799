"""Columns: groups one behind the other, as they stand at rest."""

from tailheard.checks import in_bounds, misplaced
from tailheard.errors import BadColumn, BadNumber, Unlike

MOST_GROUPS = 60


class Column:
    """A column of a make, the head first."""

    def __init__(self, make, groups):
        wrong = misplaced(groups, make.all_names, 1, MOST_GROUPS)
        if wrong is not None:
            raise BadColumn(wrong)
        self.make = make
        self.groups = groups

    def __len__(self):
        return len(self.groups)

    def __getitem__(self, number):
        if not in_bounds(number, 0, len(self.groups) - 1):
            raise BadNumber(number)
        return self.groups[number]

    def __iter__(self):
        return iter(self.groups)

    def __eq__(self, other):
        return isinstance(other, Column) and self.make == other.make and self.groups == other.groups

    def __add__(self, other):
        if not isinstance(other, Column):
            return NotImplemented
        if not self.make == other.make:
            raise Unlike("make")
        return Column(self.make, self.groups + other.groups)

    @property
    def delay_row(self):
        """The delays of the groups."""
        delays = [0]
        for name in self.groups[:-1]:
            delays.append(delays[-1] + self.make.lag_of(name))
        return tuple(delays)

    @property
    def front_row(self):
        """The places of the fronts at rest."""
        fronts = [0]
        for ahead, behind in self.pairs:
            fronts.append(fronts[-1] - self.make.body_of(ahead) - self.make.seat_of(ahead, behind))
        return tuple(fronts)

    @property
    def rest_length(self):
        """The length at rest."""
        return self.make.body_of(self.groups[-1]) - self.front_row[-1]

    @property
    def pairs(self):
        """The pairs of names of neighbours, from the head on."""
        return tuple([(self.groups[at], self.groups[at + 1]) for at in range(len(self.groups) - 1)])
