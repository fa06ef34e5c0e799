"""Crossings that let through: no way rests for ever, whatever is offered."""

from tailheard.checks import is_integer, is_tuple
from tailheard.crossings import is_situation, situation_tree
from tailheard.judges import judge_ranked
from tailheard.ranks import ranks_of
from tailheard.trees import way_back


def beats_behind(crossing, situation):
    """The triples (offer, situation, resting ways) of all beats from a situation, ascending by offers."""
    found = []
    for offer in crossing.all_offers:
        onto, leaving = crossing.beat(situation, offer)
        found.append((offer, onto, crossing.rests(situation, offer)))
    return found


def resting(beats, way):
    """The pairs (offer, situation) of those beats at which a way rests."""
    return [(offer, onto) for offer, onto, ways in beats if way in ways]


def least_loop(beats_of, way, home):
    """The least tuple of offers that leads from a situation back to it while a way rests, None if there is none."""
    found = way_back(home, lambda situation: resting(beats_of[situation], way))
    return None if found is None else tuple(found)


def way_ranks(beats_of, way):
    """For each situation at how many beats on end a way can rest; none for those from which it can for ever."""
    followers = {}
    for situation in beats_of:
        followers[situation] = [onto for offer, onto in resting(beats_of[situation], way)]
    ranks = ranks_of(followers)
    # A rank counts the situations that follow one another; between any two of them is one beat.
    return {situation: ranks[situation] - 1 for situation in ranks}


def first_breach(tree, beats_of, way, ranks):
    """The way with the offers that lead to its first loop, and the loop; there is one."""
    for situation in beats_of:
        if situation not in ranks:
            loop = least_loop(beats_of, way, situation)
            if loop is not None:
                return (way, tuple(tree.signs_to(situation)), loop)
    return None


class Through:
    """Whether a crossing lets through: ranks if it does, a loop at which a way rests if not."""

    def __init__(self, crossing):
        tree = situation_tree(crossing)
        beats_of = {situation: beats_behind(crossing, situation) for situation in tree.ordered()}
        ranks = [way_ranks(beats_of, way) for way in range(len(crossing.ways))]
        stuck = [way for way, row in enumerate(ranks) if len(row) < len(beats_of)]
        self.breach = None
        self.table = None
        if stuck:
            self.breach = first_breach(tree, beats_of, stuck[0], ranks[stuck[0]])
        else:
            self.table = tuple([(situation, tuple([row[situation] for row in ranks])) for situation in beats_of])
        self._rows = self.table or ()

    def __bool__(self):
        return self.breach is None

    def __len__(self):
        return len(self._rows)

    def __iter__(self):
        return iter(self._rows)


def has_row_form(crossing, row):
    """Whether a row has the form of a situation with a rank for each way."""
    many = len(crossing.ways)
    if not is_tuple(row, 2, 2) or not is_situation(crossing, row[0]) or not is_tuple(row[1], many, many):
        return False
    return all([is_integer(rank) and rank >= 0 for rank in row[1]])


def is_right(crossing, told, row):
    """Whether a row with the form told is right by itself."""
    for offer, onto, ways in beats_behind(crossing, row[0]):
        if onto not in told or not all([told[onto][way] < row[1][way] for way in ways]):
            return False
    return True


def judge_through(crossing, table):
    """What is wrong with a table of ranks, None if it is right."""
    def has_form(row):
        return has_row_form(crossing, row)

    return judge_ranked(table, crossing.beginning, has_form, lambda told, row: is_right(crossing, told, row))
