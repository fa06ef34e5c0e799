"""Searches along signs: what signs lead to, in the order of the least strings of signs that lead there.

The same string can lead to several things; they are one group. Groups are found in the order of their strings, so
the string with which a thing is found first is the least one.
"""

from tailheard.errors import TooMany

# What the search for a way back looks for: it is none of the points (0, thing), but can be compared with them.
BACK = (1,)


class Tree:
    """Groups of things that have the same least string, as far as they have been found."""

    def __init__(self, first):
        self.groups = [[first]]
        self.sources = [(0, "")]
        self.group_of = {first: 0}

    def grow(self, at, onward):
        """Find what signs lead to from a group; `onward` tells the pairs (sign, thing) of a thing."""
        by_sign = {}
        for thing in self.groups[at]:
            for sign, onto in onward(thing):
                by_sign.setdefault(sign, {})[onto] = True
        for sign in sorted(by_sign):
            fresh = sorted([onto for onto in by_sign[sign] if onto not in self.group_of])
            for onto in fresh:
                self.group_of[onto] = len(self.groups)
            if fresh:
                self.groups.append(fresh)
                self.sources.append((at, sign))

    def ordered(self):
        """All things found, in the order of their least strings, those with the same one ascending."""
        return [thing for group in self.groups for thing in group]

    def signs_to(self, thing):
        """The signs that lead to a thing, the first one first."""
        signs = []
        at = self.group_of[thing]
        while at > 0:
            at, sign = self.sources[at]
            signs.append(sign)
        return signs[::-1]


def whole_tree(first, onward, most, word):
    """The tree of all that signs lead to; TooMany with a word if these are more than the most."""
    tree = Tree(first)
    at = 0
    while at < len(tree.groups):
        tree.grow(at, onward)
        if len(tree.group_of) > most:
            raise TooMany(word)
        at = at + 1
    return tree


def least_way(first, onward, goal):
    """The least list of signs that leads from the first thing to a goal, None if there is none."""
    tree = Tree(first)
    at = 0
    while goal not in tree.group_of and at < len(tree.groups):
        tree.grow(at, onward)
        at = at + 1
    if goal not in tree.group_of:
        return None
    return tree.signs_to(goal)


def way_back(home, onward):
    """The least list of at least one sign that leads from a thing back to it, None if there is none."""
    def points(point):
        return [(sign, BACK if onto == home else (0, onto)) for sign, onto in onward(point[1])]

    return least_way((0, home), points, BACK)
