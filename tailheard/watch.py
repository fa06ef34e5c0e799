"""Watchers: what can be known of a group by who sees its neighbour alone."""

from tailheard.betweens import Betweens
from tailheard.checks import is_integer, is_rising, is_tuple
from tailheard.duos import Duo
from tailheard.errors import BadSeen
from tailheard.judges import judge_ranked
from tailheard.looks import looks_of
from tailheard.ranks import ranks_of
from tailheard.trees import way_back, whole_tree

MOST_KNOWLEDGES = 250


class Watcher:
    """Who sees one of two neighbours and wants to know how the other one looks."""

    def __init__(self, make, looks, ahead, behind, calls, seen):
        told = looks_of(make, looks)
        self._duo = Duo(make, ahead, behind, calls)
        if seen not in ("ahead", "behind"):
            raise BadSeen(seen)
        self._looks = (told[ahead], told[behind])
        self._seen = 0 if seen == "ahead" else 1
        self._moves = {}
        self.first = tuple(sorted(list(Betweens(make, ahead, behind, calls))))

    def look(self, side, between):
        """The look of the one ahead (0) or of the one behind (1) at a between."""
        return self._looks[side][between[side + 1]]

    def moves(self, between):
        """The pairs (look of the seen group, between) of the steps of a between."""
        if between not in self._moves:
            onward = self._duo.signs_onward(between)
            self._moves[between] = [(self.look(self._seen, onto), onto) for sign, onto in onward]
        return self._moves[between]

    def onward(self, knowledge):
        """The pairs (look, knowledge) of the looks that are possible behind a knowledge, ascending."""
        found = {}
        for between in knowledge:
            for look, onto in self.moves(between):
                found.setdefault(look, {})[onto] = True
        return [(look, tuple(sorted(found[look]))) for look in sorted(found)]

    def is_doubtful(self, knowledge):
        """Whether the other group has different looks in two betweens of a knowledge."""
        return len(set([self.look(1 - self._seen, between) for between in knowledge])) > 1

    def doubts(self, order):
        """For the number of each knowledge in doubt the pairs (look, number) of those that follow and are, too."""
        number = {knowledge: at for at, knowledge in enumerate(order) if self.is_doubtful(knowledge)}
        found = {}
        for knowledge in number:
            onward = [(look, onto) for look, onto in self.onward(knowledge) if onto in number]
            found[number[knowledge]] = [(look, number[onto]) for look, onto in onward]
        return found

    def has_row_form(self, row):
        """Whether a row has the form of a knowledge with a rank."""
        if not is_tuple(row, 2, 2) or not isinstance(row[0], tuple) or not is_integer(row[1]) or row[1] < 0:
            return False
        if not row[0] or not all([self._duo.has_form(between) for between in row[0]]):
            return False
        return is_rising(row[0])

    def is_right(self, told, row):
        """Whether a row with the form told is right by itself."""
        knowledge, rank = row
        is_doubtful = self.is_doubtful(knowledge)
        if is_doubtful and rank < 1:
            return False
        for look, onto in self.onward(knowledge):
            if onto not in told:
                return False
            if is_doubtful and self.is_doubtful(onto) and told[onto] >= rank:
                return False
        return True


def first_loop(doubts, ranks):
    """The number of the first knowledge from which doubts lead back to it, and the least loop; there is one."""
    for at in doubts:
        way = None if at in ranks else way_back(at, lambda number: doubts[number])
        if way is not None:
            return at, "".join(way)
    return None


class Watch:
    """Whether the doubt of a watcher always ends: ranks if it does, a loop if not."""

    def __init__(self, make, looks, ahead, behind, calls, seen):
        watcher = Watcher(make, looks, ahead, behind, calls, seen)
        tree = whole_tree(watcher.first, lambda thing: watcher.onward(thing), MOST_KNOWLEDGES, "knowledge")
        order = tree.ordered()
        doubts = watcher.doubts(order)
        ranks = ranks_of({at: [onto for look, onto in doubts[at]] for at in doubts})
        self.text = None
        self.loop = None
        self.delay = None
        self.table = None
        if len(ranks) == len(doubts):
            self.table = tuple([(knowledge, ranks.get(at, 0)) for at, knowledge in enumerate(order)])
            self.delay = max([rank for knowledge, rank in self.table])
        else:
            at, self.loop = first_loop(doubts, ranks)
            self.text = "".join(tree.signs_to(order[at]))
        self._rows = self.table or ()
        self._watcher = watcher

    def __bool__(self):
        return self.loop is None

    def __len__(self):
        return len(self._rows)

    def __iter__(self):
        return iter(self._rows)

    def after(self, sights):
        """The knowledge behind a string of looks, the empty tuple if one of them is not possible."""
        knowledge = self._watcher.first
        for look in sights:
            onward = [onto for own, onto in self._watcher.onward(knowledge) if own == look]
            knowledge = onward[0] if onward else ()
        return knowledge


def judge_watch(make, looks, ahead, behind, calls, seen, table):
    """What is wrong with a table of ranks, None if it is right."""
    watcher = Watcher(make, looks, ahead, behind, calls, seen)

    def has_form(row):
        return watcher.has_row_form(row)

    return judge_ranked(table, watcher.first, has_form, lambda told, row: watcher.is_right(told, row))
