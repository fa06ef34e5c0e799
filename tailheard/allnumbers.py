"""All numbers: whether a wish is kept by what a program calls, in columns of any number of groups of one kind."""

from tailheard.checks import is_integer, wish_of
from tailheard.errors import BadNumber, HasVariable, Unlike
from tailheard.maps import least_alike, tail_and_period
from tailheard.pairstates import PairStates
from tailheard.scores import ANSWER, Score

LEAST_NUMBER = 2


def states_of(make, name, program, wish):
    """The pair states of a kind with itself for a program without variables."""
    make.check_name(name)
    if program.words != make.words:
        raise Unlike("words")
    for variable in program.variables:
        raise HasVariable(variable)
    return PairStates(make, name, name, wish_of(wish))


class AllNumbers:
    """Whether a program is kept for all numbers of groups: the outcomes, and the least number that breaks."""

    def __init__(self, make, name, program, wish):
        net = states_of(make, name, program, wish)
        score = Score(net, program.script)
        # An answer is so many silences for each group behind the head.
        silences = 2 * make.lag_of(name)
        tail, period = tail_and_period(score.of_silences(silences))
        lag = max(LEAST_NUMBER, tail + 1)
        rows = []
        for n in range(LEAST_NUMBER, lag + period):
            rows.append((n, net.outcome(score.whole({ANSWER: silences * (n - 1)}))))
        broken = [n for n, outcome in rows if outcome is None]
        self.lag = lag
        self.period = period
        self.table = tuple(rows)
        self.least_number = broken[0] if broken else None
        self._outcomes = {n: outcome for n, outcome in rows}

    def __bool__(self):
        return self.least_number is None

    def __len__(self):
        return len(self.table)

    def __iter__(self):
        return iter(self.table)

    def outcome(self, n):
        """The outcome for a number of groups, however great."""
        if not is_integer(n) or n < LEAST_NUMBER:
            raise BadNumber(n)
        return self._outcomes[least_alike(n, self.lag, self.period)]
