"""Chains that are late: all groups come out in their order and with their gaps, so many beats later."""

from tailheard.chains import Chain
from tailheard.checks import in_bounds, is_text, is_tuple
from tailheard.errors import BadBeats, BadMost
from tailheard.judges import judge_closed
from tailheard.maps import choices_below
from tailheard.obstacles import Obstacle
from tailheard.passings import Passing
from tailheard.plans import check_signs
from tailheard.trees import whole_tree

MOST_LATE = 12
MOST_TRIPLES = 700


class Lateness:
    """A chain, a stream plan, and the number of beats by which the chain may be late.

    Attribute: the first triple.
    """

    def __init__(self, chain, plan, beats):
        self._passing = Passing(chain, plan)
        if not in_bounds(beats, 0, MOST_LATE):
            raise BadBeats(beats)
        self.origin = (0, self._passing.insides, "." * beats)
        self._beats = beats

    def moves(self, triple):
        """The triples (sign, triple, whether what is told comes out) of the steps of a triple."""
        state, insides, window = triple
        found = []
        for sign, onto, further, out in self._passing.moves(state, insides):
            told = window + sign
            found.append((sign, (onto, further, told[1:]), out == told[0]))
        return found

    def tree(self):
        """The tree of all triples; TooMany if there are more than 700."""
        def onward(triple):
            return [(sign, onto) for sign, onto, is_told in self.moves(triple)]

        return whole_tree(self.origin, onward, MOST_TRIPLES, "passage")

    def least_wrong(self, tree):
        """The least stream at whose last beat something else comes out, None if there is none."""
        found = []
        for triple in tree.ordered():
            signs = [sign for sign, onto, is_told in self.moves(triple) if not is_told]
            if signs:
                stream = "".join(tree.signs_to(triple)) + min(signs)
                found.append((len(stream), stream))
        return min(found)[1] if found else None

    def has_form(self, thing):
        """Whether a thing has the form of such a triple."""
        if not is_tuple(thing, 3, 3) or not self._passing.is_state(thing[0]):
            return False
        return self._passing.are_insides(thing[1]) and is_text(thing[2], self._passing.signs, self._beats, self._beats)

    def is_right(self, told, row):
        """Whether a triple is right by itself."""
        return all([is_told and onto in told for sign, onto, is_told in self.moves(row)])


class Late:
    """Whether a chain is late by so many beats: a table of triples if it is, a stream if not."""

    def __init__(self, chain, plan, beats):
        lateness = Lateness(chain, plan, beats)
        tree = lateness.tree()
        self.stream = lateness.least_wrong(tree)
        self.table = tuple(tree.ordered()) if self.stream is None else None
        self._rows = self.table or ()

    def __bool__(self):
        return self.stream is None

    def __len__(self):
        return len(self._rows)

    def __iter__(self):
        return iter(self._rows)


def judge_late(chain, plan, beats, table):
    """What is wrong with a table of triples, None if it is closed."""
    lateness = Lateness(chain, plan, beats)

    def has_form(row):
        return lateness.has_form(row)

    return judge_closed(table, [lateness.origin], has_form, lambda told, row: lateness.is_right(told, row))


def plain_triples(names, most):
    """What tells each of the plain obstacles over some names with delays up to the most, ascending."""
    parts = sorted(["".join([names[at] for at in choice]) for choice in choices_below(len(names))])
    delays = [(zero, one) for zero in range(1, most + 1) for one in range(1, most + 1)]
    return [(part, pair, first) for part in parts for pair in delays for first in range(2)]


def undoers(obstacle, plan, most, beats):
    """What tells each of the plain obstacles that undo what an obstacle does, so many beats late in all."""
    check_signs(plan, "." + obstacle.names)
    if not in_bounds(most, 1, 3):
        raise BadMost(most)
    if not in_bounds(beats, 2, 7):
        raise BadBeats(beats)
    found = []
    for part, delays, first in plain_triples(obstacle.names, most):
        chain = Chain([obstacle, Obstacle.plain(obstacle.names, part, delays, first)])
        if Late(chain, plan, beats):
            found.append((part, delays, first))
    return tuple(found)
