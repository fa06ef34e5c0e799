"""Stretches: how long the columns of a file can become, whatever is called."""

from tailheard.errors import TooLong
from tailheard.heard import WAITING, steps
from tailheard.nodes import MOST_NODES, Nodes
from tailheard.paces import Pace, lowest
from tailheard.plans import check_calls
from tailheard.rises import Rises, turned
from tailheard.sums import least_sums
from tailheard.trees import least_way, whole_tree

MOST_SHOWN = 40


class Twins:
    """The twins of two kinds under a calling plan: how both stand when they have heard the same string."""

    def __init__(self, make, first, last, calls):
        self.origin = (WAITING, 0, 0)
        self._calls = calls
        self._signs = "." + make.words
        self._first = make[first].standings
        self._last = make[last].standings

    def moves(self, twin):
        """The triples (sign, difference of the strides, twin) of the steps of a twin."""
        state, one, two = twin
        found = []
        for sign, onto in steps(self._calls, state):
            at = self._signs.index(sign)
            leader = self._first[one][2][at]
            follower = self._last[two][2][at]
            found.append((sign, self._first[leader][0] - self._last[follower][0], (onto, leader, follower)))
        return found

    def ordered(self):
        """All twins; TooMany if there are more than 100."""
        def onward(twin):
            return [(sign, onto) for sign, difference, onto in self.moves(twin)]

        return whole_tree(self.origin, onward, MOST_NODES, "node").ordered()

    def rest_less(self, two):
        """By how much the body of the last group is greater in a standing than at rest."""
        return self._last[two][1] - self._last[0][1]

    def leads(self, order, least):
        """The lead of each twin: the greatest (or least) difference of the walks, None if there is none."""
        number = {twin: at for at, twin in enumerate(order)}
        edges = []
        for twin in order:
            for sign, difference, onto in self.moves(twin):
                edges.append((number[twin], number[onto], turned(difference, not least)))
        sums = least_sums(len(order), edges)
        return {twin: None if sums[at] is None else turned(sums[at], not least) for twin, at in number.items()}


class Stretch:
    """The greatest (or least) lengths of a file under a calling plan, for all numbers."""

    def __init__(self, file, calls, *, least=False):
        groups = file.head + file.part + file.tail
        check_calls(file.make, calls)
        twins = Twins(file.make, groups[0], groups[-1], calls)
        order = twins.ordered()
        leads = twins.leads(order, least)
        self.file = file
        self.calls = calls
        self._falls = least
        self._nodes = Nodes(file.make, groups[0], calls)
        self._rises = Rises(file.make, groups[0], calls, falls=least)
        self._twins = twins
        self._leads = leads
        self._is_bounded = not any([leads[twin] is None for twin in order])
        self._growth = None
        if self._is_bounded and not least:
            above, below = Pace(file.make, groups[0], calls).pace
            paces = file.length_of_part() * below + above * file.delay_of_part()
            self._growth = lowest(paces, below)

    def __call__(self, n):
        rest = self.file.length_of(n)
        if not self._is_bounded:
            return None
        return rest + self.best(self.file.delay_of(n))[0]

    @property
    def growth(self):
        """The mean gain of the greatest lengths from number to number, in lowest terms; None if there are none."""
        return self._growth

    def best(self, delay):
        """By how much the length is greater (or less) than at rest, and a twin of which it is so."""
        found = []
        for twin in self._leads:
            rise = self._rises.rise(twin[:2], delay)
            found.append((turned(self._leads[twin] + self._twins.rest_less(twin[2]) + rise, not self._falls), twin))
        worth, twin = min(found)
        return turned(worth, not self._falls), twin

    def example(self, n):
        """A string with which the column of a number comes to its greatest (or least) length."""
        delay = self.file.delay_of(n)
        if delay > MOST_SHOWN:
            raise TooLong(delay)
        if not self._is_bounded:
            return None
        twin = self.best(delay)[1]
        return self.text_to(twin) + self.text_behind(twin[:2], delay)

    def text_to(self, goal):
        """A string that leads to a twin with its lead."""
        def onward(twin):
            return [(sign, onto) for sign, difference, onto in self._twins.moves(twin)
                    if self._leads[onto] == self._leads[twin] + difference]

        return "".join(least_way(self._twins.origin, onward, goal))

    def text_behind(self, node, beats):
        """A string of so many signs from a node on that has its rise (or fall)."""
        text = ""
        now = node
        for left in range(beats - 1, -1, -1):
            whole = self._rises.rise(now, left + 1)
            sign, now = [(sign, onto) for sign, stride, onto in self._nodes.moves(now)
                         if stride + self._rises.rise(onto, left) == whole][0]
            text = text + sign
        return text
