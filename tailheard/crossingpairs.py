"""Two crossings: whether the same ways are left at each beat, whatever is offered to both."""

from tailheard.checks import is_tuple
from tailheard.crossings import is_situation
from tailheard.errors import Unlike
from tailheard.judges import judge_closed
from tailheard.trees import whole_tree

MOST_PAIRS = 700


class Side:
    """One of two crossings, which remembers what its beats lead to."""

    def __init__(self, crossing):
        self.crossing = crossing
        self._beats = {}

    def onward(self, situation):
        """For each offer, ascending, the situation to which it leads, and the ways that are left."""
        if situation not in self._beats:
            offers = self.crossing.all_offers
            self._beats[situation] = [self.crossing.beat(situation, offer) for offer in offers]
        return self._beats[situation]


class Sides:
    """Two crossings side by side.

    Attribute: the pair of both first situations.
    """

    def __init__(self, first, second):
        if len(first.ways) != len(second.ways):
            raise Unlike("ways")
        self.origin = (first.beginning, second.beginning)
        self._offers = first.all_offers
        self._first = Side(first)
        self._second = Side(second)

    def moves(self, pair):
        """For each offer, ascending, the triple (offer, pair, whether the same ways are left)."""
        return [(offer, (one[0], two[0]), one[1] == two[1]) for offer, one, two
                in zip(self._offers, self._first.onward(pair[0]), self._second.onward(pair[1]))]

    def onward(self, pair):
        """The pairs (offer, pair) of all beats from a pair of situations."""
        return [(offer, onto) for offer, onto, is_same in self.moves(pair)]

    def least_parting(self, tree):
        """The least tuple of offers at whose last beat other ways are left, None if there is none."""
        for pair in tree.ordered():
            for offer, onto, is_same in self.moves(pair):
                if not is_same:
                    return (*tree.signs_to(pair), offer)
        return None

    def has_form(self, thing):
        """Whether a thing has the form of a pair of situations, one of each crossing."""
        if not is_tuple(thing, 2, 2) or not is_situation(self._first.crossing, thing[0]):
            return False
        return is_situation(self._second.crossing, thing[1])


class CrossingPair:
    """Whether two crossings are alike: a table of pairs if they are, the least offers that part them if not."""

    def __init__(self, first, second):
        sides = Sides(first, second)
        tree = whole_tree(sides.origin, lambda pair: sides.onward(pair), MOST_PAIRS, "pair")
        self.parting = sides.least_parting(tree)
        self.table = tuple(tree.ordered()) if self.parting is None else None
        self._rows = self.table or ()

    def __bool__(self):
        return self.parting is None

    def __len__(self):
        return len(self._rows)

    def __iter__(self):
        return iter(self._rows)


def is_right(sides, told, row):
    """Whether a pair of situations is right by itself."""
    return all([is_same and onto in told for offer, onto, is_same in sides.moves(row)])


def judge_crossings(first, second, table):
    """What is wrong with a table of pairs of situations, None if it is closed."""
    sides = Sides(first, second)

    def has_form(row):
        return sides.has_form(row)

    return judge_closed(table, [sides.origin], has_form, lambda told, row: is_right(sides, told, row))
