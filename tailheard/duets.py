"""Two kinds as neighbours between two voices: how a pair of signs leads from one double to the next."""

from tailheard.checks import in_bounds, is_tuple
from tailheard.drills import led_by_two
from tailheard.heard import WAITING, steps
from tailheard.plans import check_calls
from tailheard.tandems import Tandem
from tailheard.trees import whole_tree

MOST_DOUBLES = 1200


class Duet:
    """A kind ahead and a kind behind, the plan of the down callings and that of the up callings.

    Attributes: the seat, and the first double.
    """

    def __init__(self, make, ahead, behind, downs, ups):
        tandem = Tandem(make, ahead, behind)
        check_calls(make, downs)
        check_calls(make, ups)
        silences = "." * tandem.lag
        self.seat = tandem.seat
        self.origin = (WAITING, WAITING, 0, 0, silences, silences)
        self._tandem = tandem
        self._downs = {state: steps(downs, state) for state in range(WAITING, len(downs))}
        self._ups = {state: steps(ups, state) for state in range(WAITING, len(ups))}

    def moves(self, double):
        """The triples (signs, change, double) of the steps of a double, ascending."""
        down, up, first, second, below, above = double
        found = []
        for down_sign, down_onto in self._downs[down]:
            leader = led_by_two(self._tandem.ahead, first, (down_sign, above[0]))
            for up_sign, up_onto in self._ups[up]:
                follower = led_by_two(self._tandem.behind, second, (below[0], up_sign))
                change = self._tandem.change(first, leader, follower)
                onto = (down_onto, up_onto, leader, follower, below[1:] + down_sign, above[1:] + up_sign)
                found.append(((down_sign, up_sign), change, onto))
        return tuple(sorted(found))

    def signs_onward(self, double):
        """The pairs (signs, double) of the steps of a double."""
        return [(signs, onto) for signs, change, onto in self.moves(double)]

    def tree(self):
        """The tree of all doubles; TooMany if there are more than 1,200."""
        return whole_tree(self.origin, lambda double: self.signs_onward(double), MOST_DOUBLES, "double")

    def has_form(self, thing):
        """Whether a thing has the form of a double of these kinds."""
        if not is_tuple(thing, 6, 6) or not in_bounds(thing[0], WAITING, len(self._downs) - 3):
            return False
        if not in_bounds(thing[1], WAITING, len(self._ups) - 3) or not self._tandem.are_standings(thing[2], thing[3]):
            return False
        return self._tandem.is_window(thing[4]) and self._tandem.is_window(thing[5])
