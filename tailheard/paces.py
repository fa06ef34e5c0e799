"""Paces: how many paces a group can go per beat in the long run."""

from math import gcd

from tailheard.checks import frozen, is_integer, is_tuple
from tailheard.nodes import Nodes
from tailheard.sums import least_sums
from tailheard.trees import way_back


def lowest(above, below):
    """A fraction in lowest terms."""
    part = gcd(above, below)
    return (above // part, below // part)


def is_less(one, two):
    """Whether a fraction is less than another one."""
    return one[0] * two[1] < two[0] * one[1]


def greatest_walks(moves):
    """For each number of signs up to that of the nodes, the greatest sum of strides from the first node to each one.

    It is None for a node to which so many signs do not lead. Moves are pairs (stride, number of a node).
    """
    walks = [[0] + [None] * (len(moves) - 1)]
    for _ in moves:
        last = walks[-1]
        further = [None] * len(moves)
        for at, row in enumerate(moves):
            for stride, onto in row:
                if last[at] is not None and (further[onto] is None or further[onto] < last[at] + stride):
                    further[onto] = last[at] + stride
        walks.append(further)
    return walks


def greatest_mean(moves):
    """The greatest mean of the strides over all loops, by the theorem of Karp."""
    walks = greatest_walks(moves)
    many = len(moves)
    best = None
    # As one can wait at the first node, as many signs as there are nodes lead to each node.
    for node in range(many):
        least = None
        for signs in range(many):
            if walks[signs][node] is not None:
                mean = (walks[many][node] - walks[signs][node], many - signs)
                if least is None or is_less(mean, least):
                    least = mean
        if best is None or is_less(best, least):
            best = least
    return lowest(best[0], best[1])


def potentials_of(moves, pace):
    """The potential of each node."""
    above, below = pace
    edges = [(at, onto, above - below * stride) for at, row in enumerate(moves) for stride, onto in row]
    return [-worth for worth in least_sums(len(moves), edges)]


def breaks(potentials, pace, at, stride, onto):
    """Whether a step leads to a lesser potential than it must."""
    return potentials[onto] < potentials[at] + pace[1] * stride - pace[0]


class NodeNet:
    """The nodes of a kind by their numbers.

    Attributes: the nodes in order, and for each one its steps, triples (sign, stride, number of a node).
    """

    def __init__(self, make, name, calls):
        nodes = Nodes(make, name, calls)
        self.order = nodes.ordered()
        number = {node: at for at, node in enumerate(self.order)}
        self.edges = [[(sign, stride, number[onto]) for sign, stride, onto in nodes.moves(node)]
                      for node in self.order]


def least_loop(net, pace, potentials):
    """The node and the string of the least loop that has the greatest mean.

    The steps of such a loop leave no room between potentials: all the room of a loop is what its sum lacks.
    """
    tight = []
    for at, row in enumerate(net.edges):
        tight.append([(sign, onto) for sign, stride, onto in row
                      if potentials[onto] == potentials[at] + pace[1] * stride - pace[0]])
    best = None
    for home in range(len(tight)):
        way = way_back(home, lambda at: tight[at])
        if way is not None and (best is None or len(way) < len(best[1])):
            best = (net.order[home], "".join(way))
    return best


class Pace:
    """The greatest mean of the strides of a kind, a loop that has it, and potentials that bear it out."""

    def __init__(self, make, name, calls):
        net = NodeNet(make, name, calls)
        moves = [[(stride, onto) for sign, stride, onto in row] for row in net.edges]
        pace = greatest_mean(moves)
        potentials = potentials_of(moves, pace)
        self.nodes = tuple(net.order)
        self.pace = pace
        self.loop = least_loop(net, pace, potentials)
        self.potentials = tuple(potentials)


def judge_potentials(make, name, calls, pace, potentials):
    """What is wrong with potentials for a pace, None if they are right."""
    net = NodeNet(make, name, calls)
    told = frozen(potentials)
    many = len(net.order)
    if not is_tuple(told, many, many) or not all([is_integer(potential) for potential in told]):
        return -1
    for at, row in enumerate(net.edges):
        if any([breaks(told, pace, at, stride, onto) for sign, stride, onto in row]):
            return at
    return None
