"""Callings that are told back from what was seen of a group."""

from tailheard.checks import SMALL, misplaced
from tailheard.errors import BadSight
from tailheard.heard import steps
from tailheard.looks import looks_of
from tailheard.plans import check_calls

MOST_SIGHTS = 30


class Seer:
    """What a group of a kind looks like when it hears from a calling plan.

    A node is a pair of all hearing states to which a string can have led, and the standing.
    """

    def __init__(self, make, looks, name, calls):
        told = looks_of(make, looks)
        make.check_name(name)
        check_calls(make, calls)
        self._looks = told[name]
        self._signs = "." + make.words
        self._standings = make[name].standings
        self._calls = calls

    def onward(self, node, look):
        """The pairs (sign, node) of the signs behind which the group has a look, ascending."""
        states, standing = node
        found = {}
        for state in states:
            for sign, onto in steps(self._calls, state):
                found.setdefault(sign, {})[onto] = True
        nodes = []
        for sign in sorted(found):
            further = self._standings[standing][2][self._signs.index(sign)]
            if self._looks[further] == look:
                nodes.append((sign, (tuple(sorted(found[sign])), further)))
        return nodes

    def layers(self, sights):
        """For each look, for each node ahead of it, the pairs (sign, node) behind which the group has it."""
        found = []
        nodes = [((0,), 0)]
        for look in sights:
            layer = {node: self.onward(node, look) for node in nodes}
            found.append(layer)
            nodes = sorted(set([onto for pairs in layer.values() for sign, onto in pairs]))
        return found


def counts_of(layers):
    """For each layer, and one more behind, for each node the number of strings from it to the end."""
    counts = [{}]
    if layers:
        counts = [{onto: 1 for pairs in layers[-1].values() for sign, onto in pairs}]
    for layer in layers[::-1]:
        behind = counts[-1]
        counts.append({node: sum([behind[onto] for sign, onto in layer[node]]) for node in layer})
    return counts[::-1]


def hopeful_layers(layers, counts):
    """The layers with those pairs alone from which a string leads to the end."""
    found = []
    for at, layer in enumerate(layers):
        behind = counts[at + 1]
        found.append({node: [pair for pair in layer[node] if behind[pair[1]] > 0] for node in layer})
    return found


def end_text(layers, at):
    """The string that takes the first pairs, or the last ones with -1."""
    node = ((0,), 0)
    signs = []
    for layer in layers:
        sign, node = layer[node][at]
        signs.append(sign)
    return "".join(signs)


def signs_at(layers):
    """For each beat the signs that fits have there, ascending."""
    found = []
    nodes = [((0,), 0)]
    for layer in layers:
        pairs = [pair for node in nodes for pair in layer[node]]
        found.append(sorted(set([sign for sign, onto in pairs])))
        nodes = sorted(set([onto for sign, onto in pairs]))
    return found


class ToldCalling:
    """The strings that a group can have heard when it was seen with some looks."""

    def __init__(self, make, looks, name, calls, sights):
        seer = Seer(make, looks, name, calls)
        wrong = misplaced(sights, SMALL, 0, MOST_SIGHTS)
        if wrong is not None:
            raise BadSight(wrong)
        layers = seer.layers(sights)
        counts = counts_of(layers)
        self.number = counts[0][((0,), 0)] if layers else 1
        self._layers = hopeful_layers(layers, counts)
        self.first = None
        self.last = None
        self.sure = (None,) * len(layers)
        if self.number > 0:
            self.first = end_text(self._layers, 0)
            self.last = end_text(self._layers, -1)
            self.sure = tuple([signs[0] if len(signs) == 1 else None for signs in signs_at(self._layers)])

    def __contains__(self, text):
        if not isinstance(text, str) or len(text) != len(self._layers):
            return False
        node = ((0,), 0)
        for sign, layer in zip(text, self._layers):
            onward = [onto for own, onto in layer[node] if own == sign]
            if not onward:
                return False
            node = onward[0]
        return True

    def each_fit(self):
        """All fits, ascending, one by one."""
        stack = [("", ((0,), 0))]
        while stack:
            text, node = stack.pop()
            if len(text) == len(self._layers):
                yield text
            else:
                pairs = self._layers[len(text)][node]
                stack.extend([(text + sign, onto) for sign, onto in pairs[::-1]])
