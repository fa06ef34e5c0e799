"""Two kinds, one directly behind the other: what the signs that they hear make of their standings and their gap."""

from tailheard.checks import in_bounds, is_text


class Tandem:
    """A kind ahead and a kind behind.

    Attributes: the seat, the lag of the kind ahead, and the signs of the make.
    """

    def __init__(self, make, ahead, behind):
        self.seat = make.seat_of(ahead, behind)
        self.lag = make.lag_of(ahead)
        self.signs = "." + make.words
        self.ahead = make[ahead]
        self.behind = make[behind]

    def change(self, first, leader, follower):
        """What the gap gains when the one ahead comes from a standing to the next, the one behind to a further one."""
        ahead = self.ahead.standings
        return ahead[leader][0] + ahead[first][1] - ahead[leader][1] - self.behind.standings[follower][0]

    def moved(self, first, second, window, sign):
        """What the gap gains, both standings and the window when the one ahead has heard a sign more."""
        leader = self.ahead.standings[first][2][self.signs.index(sign)]
        follower = self.behind.standings[second][2][self.signs.index(window[0])]
        return self.change(first, leader, follower), leader, follower, window[1:] + sign

    def are_standings(self, first, second):
        """Whether there are such standings of the one ahead and of the one behind."""
        return in_bounds(first, 0, len(self.ahead.standings) - 1) and self.is_second(second)

    def is_second(self, second):
        """Whether there is such a standing of the one behind."""
        return in_bounds(second, 0, len(self.behind.standings) - 1)

    def is_window(self, thing):
        """Whether a thing is a string of signs as long as the lag."""
        return is_text(thing, self.signs, self.lag, self.lag)
