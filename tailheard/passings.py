"""How the streams of a plan pass a chain."""

from tailheard.checks import in_bounds, is_tuple
from tailheard.heard import ENDED, steps
from tailheard.obstacles import is_inside
from tailheard.plans import check_signs


class Passing:
    """A chain and a stream plan: what leads from a hearing state and the insides to the next ones.

    Attributes: the signs, and the insides at first.
    """

    def __init__(self, chain, plan):
        self.signs = "." + chain.obstacles[0].names
        check_signs(plan, self.signs)
        self.insides = tuple([obstacle.beginning for obstacle in chain])
        self._obstacles = chain.obstacles
        self._heard = {state: steps(plan, state) for state in range(ENDED, len(plan))}
        self._known = [{} for obstacle in chain]

    def beat(self, insides, sign):
        """The insides behind a beat at which a sign comes in, and the sign that comes out."""
        further = []
        passed = sign
        for at, inside in enumerate(insides):
            known = self._known[at]
            if (inside, passed) not in known:
                known[(inside, passed)] = self._obstacles[at].beat(inside, passed)
            onto, passed = known[(inside, passed)]
            further.append(onto)
        return tuple(further), passed

    def moves(self, state, insides):
        """For each step of a hearing state the sign, the next state, and the insides and the sign that it tells."""
        return [(sign, onto, *self.beat(insides, sign)) for sign, onto in self._heard[state]]

    def is_state(self, thing):
        """Whether a thing is a hearing state."""
        return in_bounds(thing, ENDED, len(self._heard) - 2)

    def are_insides(self, thing):
        """Whether a thing is a tuple of insides of the obstacles."""
        many = len(self._obstacles)
        if not is_tuple(thing, many, many):
            return False
        return all([is_inside(obstacle, inside) for obstacle, inside in zip(self._obstacles, thing)])
