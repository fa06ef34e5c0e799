"""Chains: obstacles that a stream passes one behind the other."""

from tailheard.checks import frozen, is_integer, is_tuple
from tailheard.errors import BadChain, BadMost
from tailheard.obstacles import Obstacle

MOST_OBSTACLES = 3


def check_chain(row):
    """Raise BadChain unless these are obstacles with the same names."""
    if not is_tuple(row, 1, MOST_OBSTACLES):
        raise BadChain(-1)
    for at, thing in enumerate(row):
        if not isinstance(thing, Obstacle) or thing.names != row[0].names:
            raise BadChain(at)


class Chain:
    """Obstacles, one behind the other."""

    def __init__(self, obstacles):
        row = frozen(obstacles)
        check_chain(row)
        self.obstacles = row

    def __len__(self):
        return len(self.obstacles)

    def __iter__(self):
        return iter(self.obstacles)

    def __eq__(self, other):
        return isinstance(other, Chain) and self.obstacles == other.obstacles

    def __add__(self, other):
        if not isinstance(other, Chain):
            return NotImplemented
        return Chain((*self.obstacles, *other.obstacles))

    def __mul__(self, times):
        if not is_integer(times) or times < 1:
            raise BadMost(times)
        if times > MOST_OBSTACLES:
            raise BadChain(-1)
        return Chain(self.obstacles * times)

    def __call__(self, stream):
        # The first obstacle judges the stream; what comes out of one is a stream of the next one.
        passed = stream
        for obstacle in self.obstacles:
            passed = obstacle(passed)
        return passed
