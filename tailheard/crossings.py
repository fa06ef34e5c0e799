"""Crossings: places of a street, the ways that go through them, and the rules of their wardens."""

from tailheard.checks import frozen, in_bounds, is_rising, is_text, is_tuple
from tailheard.errors import BadNumber, BadPlaces, BadRule, BadWay
from tailheard.trees import whole_tree

MOST_PLACES = 8
MOST_WAY = 8
MOST_SPOTS = 3
MOST_RULES = 12
MOST_MEMORY = 3
MOST_SITUATIONS = 500
SIGHTS = ".#?"


def is_way(places, row):
    """Whether a row has the form of a way through so many places."""
    if not is_tuple(row, 1, MOST_WAY) or not all([in_bounds(place, 0, places - 1) for place in row]):
        return False
    return all([row[at] != row[at + 1] for at in range(len(row) - 1)])


def check_ways(places, rows):
    """Raise BadWay unless these are ways through so many places."""
    if not is_tuple(rows, 1, 2):
        raise BadWay(-1)
    spots = [0] * places
    for at, row in enumerate(rows):
        if not is_way(places, row):
            raise BadWay(at)
        for place in row:
            spots[place] = spots[place] + 1
        if max(spots) > MOST_SPOTS:
            raise BadWay(at)


def is_spot(ways, thing):
    """Whether a thing is a spot of some ways."""
    if not is_tuple(thing, 2, 2) or not in_bounds(thing[0], 0, len(ways) - 1):
        return False
    return in_bounds(thing[1], 0, len(ways[thing[0]]) - 1)


def is_rule(places, ways, row):
    """Whether a row has the form of a rule."""
    if not is_tuple(row, 5, 5) or not in_bounds(row[0], 0, places - 1):
        return False
    if not in_bounds(row[1], 0, MOST_MEMORY) or not is_text(row[2], SIGHTS, places, places):
        return False
    spot = row[3]
    if spot is not None and (not is_spot(ways, spot) or ways[spot[0]][spot[1]] != row[0]):
        return False
    return in_bounds(row[4], 0, MOST_MEMORY)


def check_rules(places, ways, rows, most):
    """Raise BadRule unless these are at most so many rules."""
    if not is_tuple(rows, 0, most):
        raise BadRule(-1)
    for at, row in enumerate(rows):
        if not is_rule(places, ways, row):
            raise BadRule(at)


def fits(sight, view):
    """Whether a sight fits what a warden sees."""
    return all([sign in ("?", seen) for sign, seen in zip(sight, view)])


class Crossing:
    """Places, ways and rules."""

    def __init__(self, places, ways, rules=()):
        if not in_bounds(places, 1, MOST_PLACES):
            raise BadPlaces(places)
        ready = frozen(ways)
        check_ways(places, ready)
        rows = frozen(rules)
        check_rules(places, ready, rows, MOST_RULES)
        self.places = places
        self.ways = ready
        self.rules = rows

    def __len__(self):
        return len(self.rules)

    def __iter__(self):
        return iter(self.rules)

    def __eq__(self, other):
        if not isinstance(other, Crossing):
            return False
        return self.places == other.places and self.ways == other.ways and self.rules == other.rules

    def __add__(self, other):
        return Crossing(self.places, self.ways, (*self.rules, frozen(other)))

    @property
    def beginning(self):
        """The first situation."""
        return ((), (0,) * len(self.ways), (0,) * self.places)

    @property
    def all_offers(self):
        """All offers, ascending."""
        if len(self.ways) == 1:
            return ((".",), ("g",))
        return ((".", "."), (".", "g"), ("g", "."), ("g", "g"))

    def without(self, number):
        """The crossing without one of its rules."""
        if not in_bounds(number, 0, len(self.rules) - 1):
            raise BadNumber(number)
        return Crossing(self.places, self.ways, (*self.rules[:number], *self.rules[number + 1:]))

    def beat(self, situation, offer):
        """The situation behind a beat, and the ways that a group leaves."""
        here = frozen(situation)
        waiting = came(here[1], offer)
        entered, memories = self.let_in(here, waiting)
        leaving = self.left_by(here[0])
        groups = list(entered)
        for way, index in here[0]:
            if index + 1 < len(self.ways[way]) and (way, index + 1) not in entered:
                groups.append((way, index))
        still = tuple([0 if (way, 0) in entered else wait for way, wait in enumerate(waiting)])
        return (tuple(sorted(groups)), still, memories), leaving

    def rests(self, situation, offer):
        """The ways that rest at a beat, ascending."""
        here = frozen(situation)
        waiting = came(here[1], offer)
        entered, memories = self.let_in(here, waiting)
        moving = [*self.left_by(here[0]), *[way for way, index in entered]]
        busy = [way for way, index in here[0]]
        found = [way for way in range(len(self.ways)) if waiting[way] == 1 or way in busy]
        return tuple([way for way in found if way not in moving])

    def left_by(self, groups):
        """The ways that a group leaves, where groups stand at these spots."""
        return tuple([way for way, index in groups if index + 1 == len(self.ways[way])])

    def claims_of(self, groups, waiting):
        """For each place that groups claim, the spots for which they claim it, the least one first."""
        spots = [(way, 0) for way, wait in enumerate(waiting) if wait == 1]
        spots = [*spots, *[(way, index + 1) for way, index in groups if index + 1 < len(self.ways[way])]]
        found = {}
        for way, index in sorted(spots):
            found.setdefault(self.ways[way][index], []).append((way, index))
        return found

    def rule_for(self, place, memory, view):
        """The first rule that fits what the warden of a place remembers and sees, None if there is none."""
        for row in self.rules:
            if row[0] == place and row[1] == memory and fits(row[2], view):
                return row
        return None

    def let_in(self, here, waiting):
        """The spots to which groups are let in, as a dict, and the memories behind the beat."""
        groups, _, memories = here
        taken = [self.ways[way][index] for way, index in groups]
        view = ["#" if place in taken else "." for place in range(self.places)]
        claims = self.claims_of(groups, waiting)
        entered = {}
        further = list(memories)
        for place in claims:
            if place not in taken:
                row = self.rule_for(place, memories[place], view)
                if row is None:
                    entered[claims[place][0]] = True
                else:
                    further[place] = row[4]
                    if row[3] in claims[place]:
                        entered[row[3]] = True
        return entered, tuple(further)

    def run(self, offers):
        """The pairs that beats tell, one for each offer, from the first situation on."""
        situation = self.beginning
        for offer in frozen(offers):
            situation, leaving = self.beat(situation, offer)
            yield (situation, leaving)

    def situations(self):
        """All situations, ordered by the least tuples of offers that lead to them."""
        return tuple(situation_tree(self).ordered())


def came(waiting, offer):
    """For each way whether a group waits at its entrance when the offered ones have come."""
    return tuple([1 if sign == "g" else wait for wait, sign in zip(waiting, offer)])


def situation_tree(crossing):
    """The tree of all situations of a crossing; TooMany if there are more than 500."""
    offers = crossing.all_offers

    def onward(situation):
        return [(offer, crossing.beat(situation, offer)[0]) for offer in offers]

    return whole_tree(crossing.beginning, onward, MOST_SITUATIONS, "situation")


def is_situation(crossing, thing):
    """Whether a thing has the form of a situation of a crossing."""
    if not is_tuple(thing, 3, 3) or not isinstance(thing[0], tuple):
        return False
    groups, waiting, memories = thing
    ways = crossing.ways
    if not all([is_spot(ways, spot) for spot in groups]) or not is_rising(groups):
        return False
    taken = [ways[way][index] for way, index in groups]
    if len(set(taken)) < len(taken):
        return False
    if not is_tuple(waiting, len(ways), len(ways)) or not all([in_bounds(wait, 0, 1) for wait in waiting]):
        return False
    if not is_tuple(memories, crossing.places, crossing.places):
        return False
    return all([in_bounds(memory, 0, MOST_MEMORY) for memory in memories])
