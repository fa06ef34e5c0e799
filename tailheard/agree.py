"""Agreement: whether all groups of a kind stand alike when words from both ends have been heard."""

from tailheard.checks import frozen
from tailheard.duets import Duet
from tailheard.heard import ENDED, WAITING
from tailheard.parted import check_steady


def is_quiet(double):
    """Whether all has been heard, or nothing called."""
    if double[0] not in (ENDED, WAITING) or double[1] not in (ENDED, WAITING):
        return False
    return double[4] + double[5] == "." * len(double[4] + double[5])


def is_unlike(double):
    """Whether all has been heard and both groups stand unlike one another."""
    return is_quiet(double) and double[2] != double[3]


def steps_left(duet, order):
    """For each double from which steps lead to an unlike one, how many of them there must be."""
    sources = {}
    for double in order:
        for signs, change, onto in duet.moves(double):
            sources.setdefault(onto, []).append(double)
    left = {double: 0 for double in order if is_unlike(double)}
    queue = list(left)
    at = 0
    while at < len(queue):
        here = queue[at]
        for source in sources.get(here, []):
            if source not in left:
                left[source] = left[here] + 1
                queue.append(source)
        at = at + 1
    return left


def nearer(duet, left, doubles):
    """The triples (down sign, up sign, double) of the steps that lead some doubles nearer to an unlike one."""
    found = []
    for double in doubles:
        for signs, change, onto in duet.moves(double):
            if left.get(onto) == left[double] - 1:
                found.append((signs[0], signs[1], onto))
    return found


def least_down(duet, left):
    """The down string of the least pair, and the doubles to which each beginning of it can lead."""
    layers = [[duet.origin]]
    text = ""
    while left[layers[-1][0]] > 0:
        onward = nearer(duet, left, layers[-1])
        sign = min([down for down, up, onto in onward])
        text = text + sign
        layers.append(sorted(set([onto for down, up, onto in onward if down == sign])))
    return text, layers


def least_up(duet, left, layers):
    """The up string of the least pair, where the doubles behind each beginning of its down string are known.

    A double tells by its string below which down sign has led to it, so the down string need not be looked at.
    """
    hopeful = [layers[-1]]
    for doubles in layers[-2::-1]:
        further = hopeful[-1]
        hopeful.append([double for double in doubles if leads(duet, left, double, further)])
    text = ""
    now = [duet.origin]
    for further in hopeful[-2::-1]:
        onward = [(up, onto) for down, up, onto in nearer(duet, left, now) if onto in further]
        least = min(onward)[0]
        text = text + least
        now = sorted(set([onto for up, onto in onward if up == least]))
    return text


def leads(duet, left, double, further):
    """Whether a step leads a double to one of some further ones."""
    return any([onto in further for down, up, onto in nearer(duet, left, [double])])


class Agree:
    """Whether the groups of a kind agree: a table of doubles if they do, a pair of strings if not."""

    def __init__(self, make, name, downs, ups):
        check_steady(make, name)
        duet = Duet(make, name, name, downs, ups)
        order = duet.tree().ordered()
        left = steps_left(duet, order)
        self.breach = None
        self.table = tuple(order)
        if left:
            down, layers = least_down(duet, left)
            self.breach = (down, least_up(duet, left, layers))
            self.table = None
        self._rows = self.table or ()

    def __bool__(self):
        return self.breach is None

    def __len__(self):
        return len(self._rows)

    def __iter__(self):
        return iter(self._rows)


def judge_agree(make, name, downs, ups, table):
    """What is wrong with a table of doubles, None if it is closed."""
    check_steady(make, name)
    duet = Duet(make, name, name, downs, ups)
    rows = frozen(table)
    if not isinstance(rows, tuple):
        return -1
    told = {row: True for row in rows if duet.has_form(row)}
    if duet.origin not in told:
        return -1
    for at, row in enumerate(rows):
        if not duet.has_form(row) or is_unlike(row):
            return at
        if not all([onto in told for signs, change, onto in duet.moves(row)]):
            return at
    return None
