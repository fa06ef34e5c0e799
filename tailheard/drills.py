"""Drills: how a group walks and stretches by the signs that it hears."""

from tailheard.checks import check_calling, check_words, frozen, in_bounds, is_tuple
from tailheard.errors import BadStanding, NoStanding

MOST_STANDINGS = 6


def is_standing(row, signs, many):
    """Whether a row has the form of a standing, with so many signs and standings."""
    if not is_tuple(row, 3, 3):
        return False
    stride, body, nexts = row
    if not in_bounds(stride, -3, 3) or not in_bounds(body, 1, 12):
        return False
    return is_tuple(nexts, signs, signs) and all([in_bounds(onto, 0, many - 1) for onto in nexts])


def is_rest(row):
    """Whether a standing does not walk, and silence leads it to the standing 0."""
    return row[0] == 0 and row[2][0] == 0


def wrong_standing(words, rows):
    """The number of the first standing that does not have the form told, None if there is none.

    It is -1 if the rows are no tuple of 1 to 6 things.
    """
    if not is_tuple(rows, 1, MOST_STANDINGS):
        return -1
    for at, row in enumerate(rows):
        if not is_standing(row, len(words) + 1, len(rows)) or at == 0 and not is_rest(row):
            return at
    return None


def led(words, standings, standing, signs):
    """The standings to which some signs lead one after the other, without the first one."""
    places = "." + words
    found = []
    now = standing
    for sign in signs:
        now = standings[now][2][places.index(sign)]
        found.append(now)
    return found


class Drill:
    """A drill over some words."""

    REST = 0

    def __init__(self, words, standings):
        check_words(words)
        rows = frozen(standings)
        wrong = wrong_standing(words, rows)
        if wrong is not None:
            raise BadStanding(wrong)
        self.words = words
        self.standings = rows

    def __len__(self):
        return len(self.standings)

    def __getitem__(self, standing):
        self.check_standing(standing)
        return self.standings[standing]

    def __iter__(self):
        return iter(self.standings)

    def __eq__(self, other):
        return isinstance(other, Drill) and self.words == other.words and self.standings == other.standings

    def __call__(self, standing, calling):
        self.check_standing(standing)
        check_calling(self.words, calling)
        found = led(self.words, self.standings, standing, calling)
        if not found:
            return standing
        return found[-1]

    @property
    def is_steady(self):
        """Whether silence leads each standing to itself."""
        return all([row[2][0] == at for at, row in enumerate(self.standings)])

    def walk(self, standing, calling):
        """The sum of the strides of the standings to which a calling leads."""
        self.check_standing(standing)
        check_calling(self.words, calling)
        found = led(self.words, self.standings, standing, calling)
        return sum([self.standings[onto][0] for onto in found])

    def check_standing(self, standing):
        """Raise NoStanding unless there is such a standing."""
        if not in_bounds(standing, 0, len(self.standings) - 1):
            raise NoStanding(standing)


def led_by_two(drill, standing, signs):
    """The standing to which a down sign and an up sign lead that are heard at one beat."""
    words = "".join([sign for sign in signs if sign != "."])
    return led(drill.words, drill.standings, standing, words or ".")[-1]
