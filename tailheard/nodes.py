"""Nodes: how one group can stand that hears from a calling plan, also behind any number of silences."""

from tailheard.checks import in_bounds, is_tuple
from tailheard.heard import WAITING, steps
from tailheard.plans import check_calls
from tailheard.trees import whole_tree

MOST_NODES = 100


class Nodes:
    """The nodes of a kind under a calling plan.

    Attribute: the node at rest, ahead of all words.
    """

    def __init__(self, make, name, calls):
        make.check_name(name)
        check_calls(make, calls)
        self.origin = (WAITING, 0)
        self._signs = "." + make.words
        self._standings = make[name].standings
        self._heard = {state: steps(calls, state) for state in range(WAITING, len(calls))}

    def moves(self, node):
        """The triples (sign, stride, node) of the steps of a node, ascending by signs and nodes."""
        state, standing = node
        found = []
        for sign, onto in self._heard[state]:
            further = self._standings[standing][2][self._signs.index(sign)]
            found.append((sign, self._standings[further][0], (onto, further)))
        return found

    def ordered(self):
        """All nodes, ordered by the least strings that lead to them; TooMany if there are more than 100."""
        def onward(node):
            return [(sign, onto) for sign, stride, onto in self.moves(node)]

        return whole_tree(self.origin, onward, MOST_NODES, "node").ordered()

    def has_form(self, thing):
        """Whether a thing has the form of a node."""
        if not is_tuple(thing, 2, 2) or not in_bounds(thing[0], WAITING, len(self._heard) - 3):
            return False
        return in_bounds(thing[1], 0, len(self._standings) - 1)
