"""Spots of trees of signs, and the plans that bear what the trees stand for.

A tree is a sign `("sign", sign)`, or what stands for trees one behind the other `("row", trees)`, one of several
trees `("choice", trees)`, a tree so many times `("times", tree, number)`, any number of times `("star", tree)`,
any number of times from 1 `("plus", tree)`, or once or not at all `("maybe", tree)`.
"""

from tailheard.errors import TooLong
from tailheard.plans import Plan
from tailheard.rows import MOST_STATES, least_rows, rows_of_lots

MOST_SPOTS = 200
BEGINNING = -1


def spot_count(tree):
    """The number of spots of a tree, without writing it out."""
    word = tree[0]
    if word == "sign":
        return 1
    if word in ("row", "choice"):
        return sum([spot_count(part) for part in tree[1]])
    if word == "times":
        return spot_count(tree[1]) * tree[2]
    return spot_count(tree[1])


class SpotNet:
    """The spots of a tree: the sign at each one, and at which spots the sign behind it can stand."""

    def __init__(self, tree):
        self.signs = []
        self.behind = []
        self.is_empty, self.firsts, self.lasts = self.read(tree)

    def read(self, tree):
        """Read a tree: whether it stands for the empty string, and at which spots its strings begin and end."""
        word = tree[0]
        if word == "sign":
            self.signs.append(tree[1])
            self.behind.append({})
            spot = len(self.signs) - 1
            return False, [spot], [spot]
        if word == "row":
            return self.read_row(tree[1])
        if word == "choice":
            return self.read_choice(tree[1])
        if word == "times":
            return self.read_row([tree[1]] * tree[2])
        is_empty, firsts, lasts = self.read(tree[1])
        if word != "maybe":
            self.link(lasts, firsts)
        return is_empty or word != "plus", firsts, lasts

    def read_row(self, trees):
        """Read trees one behind the other."""
        is_empty, firsts, lasts = True, [], []
        for tree in trees:
            part_empty, part_firsts, part_lasts = self.read(tree)
            self.link(lasts, part_firsts)
            if is_empty:
                firsts = firsts + part_firsts
            lasts = lasts + part_lasts if part_empty else part_lasts
            is_empty = is_empty and part_empty
        return is_empty, firsts, lasts

    def read_choice(self, trees):
        """Read trees of which one is taken."""
        is_empty, firsts, lasts = False, [], []
        for tree in trees:
            part_empty, part_firsts, part_lasts = self.read(tree)
            firsts = firsts + part_firsts
            lasts = lasts + part_lasts
            is_empty = is_empty or part_empty
        return is_empty, firsts, lasts

    def link(self, lasts, firsts):
        """Let the sign at each first spot stand behind the sign at each last one."""
        for last in lasts:
            for spot in firsts:
                self.behind[last][spot] = True

    def onward(self, lot):
        """The signs that can stand behind a lot, each with the lot to which it leads."""
        found = {}
        for spot in lot:
            for onto in list(self.firsts if spot == BEGINNING else self.behind[spot]):
                found.setdefault(self.signs[onto], {})[onto] = True
        return [(sign, tuple(sorted(found[sign]))) for sign in sorted(found)]

    def is_end(self, lot):
        """Whether a string with this lot is one for which the tree stands."""
        return any([self.is_empty if spot == BEGINNING else spot in self.lasts for spot in lot])


def plan_of_tree(tree):
    """The least plan that bears what a tree stands for; TooLong above 200 spots, TooMany above 60 lots."""
    many = spot_count(tree)
    if many > MOST_SPOTS:
        raise TooLong(many)
    net = SpotNet(tree)
    lots, rows = rows_of_lots((BEGINNING,), lambda lot: net.onward(lot), MOST_STATES, "state")
    states, ends = least_rows(rows, [net.is_end(lot) for lot in lots])
    return Plan(states, ends)
