"""Makes: the kinds of groups of a house, and how they stand behind one another at rest."""

from tailheard.checks import CAPITALS, check_words, frozen, in_bounds, is_letter, is_tuple
from tailheard.drills import Drill, wrong_standing
from tailheard.errors import BadKind, BadSeat, BadSpace, Twice, Unknown

MOST_KINDS = 4
MOST_LAG = 3
MOST_SPACE = 20
MOST_SEAT = 40


def is_kind(words, row):
    """Whether a row has the form of a kind, with a drill over the words."""
    if not is_tuple(row, 3, 3):
        return False
    name, lag, standings = row
    if not is_letter(name, CAPITALS) or not in_bounds(lag, 1, MOST_LAG):
        return False
    return wrong_standing(words, standings) is None


def check_kinds(words, rows):
    """Raise BadKind or Twice unless the rows are the kinds of a make."""
    if not is_tuple(rows, 1, MOST_KINDS):
        raise BadKind(-1)
    for at, row in enumerate(rows):
        if not is_kind(words, row):
            raise BadKind(at)
    names = [row[0] for row in rows]
    for at, name in enumerate(names):
        if name in names[:at]:
            raise Twice(name)


def is_seat(names, row):
    """Whether a row has the form of a seat of two of some names."""
    if not is_tuple(row, 3, 3):
        return False
    ahead, behind, paces = row
    return is_letter(ahead, names) and is_letter(behind, names) and in_bounds(paces, 0, MOST_SEAT)


def check_seats(names, rows):
    """Raise BadSeat unless the rows are the seats of a make with these names."""
    if not isinstance(rows, tuple):
        raise BadSeat(-1)
    taken = {}
    for at, row in enumerate(rows):
        if not is_seat(names, row) or row[:2] in taken:
            raise BadSeat(at)
        taken[row[:2]] = True


class Make:
    """Words, kinds, a space and seats."""

    def __init__(self, words, kinds, space=1, seats=()):
        check_words(words)
        rows = frozen(kinds)
        check_kinds(words, rows)
        if not in_bounds(space, 0, MOST_SPACE):
            raise BadSpace(space)
        names = "".join(sorted([row[0] for row in rows]))
        places = frozen(seats)
        check_seats(names, places)
        self.words = words
        self.kinds = rows
        self.space = space
        self.seats = places
        self._names = names
        self._kind_of = {row[0]: row for row in rows}
        self._paces = {(row[0], row[1]): row[2] for row in places}

    def __len__(self):
        return len(self.kinds)

    def __getitem__(self, name):
        self.check_name(name)
        return Drill(self.words, self._kind_of[name][2])

    def __contains__(self, name):
        return is_letter(name, self._names)

    def __iter__(self):
        return iter(self._names)

    def __eq__(self, other):
        return (isinstance(other, Make) and self.words == other.words and self.kinds == other.kinds
                and self.space == other.space and self.seats == other.seats)

    @property
    def all_names(self):
        """The ascending string of the names of the kinds."""
        return self._names

    def lag_of(self, name):
        """The lag of a kind."""
        self.check_name(name)
        return self._kind_of[name][1]

    def seat_of(self, ahead, behind):
        """The gap at rest between a kind ahead and a kind behind."""
        self.check_name(ahead)
        self.check_name(behind)
        return self._paces.get((ahead, behind), self.space)

    def body_of(self, name):
        """The length of a group of a kind at rest."""
        return self._kind_of[name][2][Drill.REST][1]

    def reseated(self, seats):
        """The make with these seats in the place of its own."""
        return Make(self.words, self.kinds, self.space, seats)

    def check_name(self, name):
        """Raise Unknown unless there is a kind of this name."""
        if not is_letter(name, self._names):
            raise Unknown(name)
