"""All values: whether a wish is kept by what a program calls, whatever the values of its variables."""

from math import lcm

from tailheard.callings import check_values
from tailheard.checks import wish_of
from tailheard.errors import HasAnswer, TooMany, Unlike
from tailheard.maps import least_alike, product_of, tail_and_period, tuples_below
from tailheard.pairstates import PairStates
from tailheard.scores import Score, heads_of

MOST_TUPLES = 300


def check_no_answer(program):
    """Raise HasAnswer with the number of the first answer of a program, if it has one."""
    for number, row in enumerate(program.statements()):
        if row[0] == "answer":
            raise HasAnswer(number)


def states_of(make, ahead, behind, program, wish):
    """The pair states of two kinds for a program without answers."""
    make.check_name(ahead)
    make.check_name(behind)
    if program.words != make.words:
        raise Unlike("words")
    check_no_answer(program)
    return PairStates(make, ahead, behind, wish_of(wish))


def limits_of(kinds, names):
    """For each of some names the number of the kinds of its values."""
    return [kinds[name][0] + kinds[name][1] for name in names]


def all_of_parts(score, parts):
    """All that parts can make one behind the other, whatever the values: each variable stands in one of them alone."""
    made = [tuple(score.net.unit)]
    for part in parts:
        further = all_of_part(score, part)
        found = {}
        for one in made:
            for two in further:
                found[tuple(score.net.joined(one, two))] = True
        made = list(found)
    return made


def all_of_part(score, part):
    """All that a part can make, passed as often as it tells."""
    if not part.names:
        return [score.of_part(part, {})]
    found = {}
    for once in all_passes(score, part):
        if isinstance(part.amount, str):
            for made in all_powers(score, once):
                found[tuple(made)] = True
        else:
            found[tuple(score.power(once, part.amount))] = True
    return list(found)


def all_passes(score, part):
    """All that a part can make, passed once."""
    if part.sign is None:
        return all_of_parts(score, part.parts)
    return [score.net.of_sign(part.sign)]


def all_powers(score, once):
    """All that is made by one and the same any number of times."""
    lag, period = tail_and_period(once)
    made = [score.net.unit]
    for _ in range(lag + period - 1):
        made.append(score.net.joined(made[-1], once))
    return made


def kinds_of(score, most=None):
    """The pair (lag, period) of each variable; TooMany as soon as there are more than the most tuples of kinds."""
    kinds = {}
    for head in heads_of(score.parts):
        lag, period = 0, 1
        for once in all_passes(score, head):
            tail, further = tail_and_period(once)
            lag = max(lag, tail)
            period = lcm(period, further)
        kinds[head.amount] = (lag, period)
        if most is not None and product_of(limits_of(kinds, kinds)) > most:
            raise TooMany("value")
    return kinds


def value_kinds(make, ahead, behind, program, wish):
    """The triples (name, lag, period) of the variables of a program, in order."""
    score = Score(states_of(make, ahead, behind, program, wish), program.script)
    kinds = kinds_of(score)
    return tuple([(name, *kinds[name]) for name in program.variables])


class AllValues:
    """Whether a program is kept for all values: the outcomes for all kinds of values, and the least ones that break."""

    def __init__(self, make, ahead, behind, program, wish):
        net = states_of(make, ahead, behind, program, wish)
        score = Score(net, program.script)
        kinds = kinds_of(score, MOST_TUPLES)
        names = program.variables
        rows = []
        for row in tuples_below(limits_of(kinds, names)):
            rows.append((row, net.outcome(score.whole(dict(zip(names, row))))))
        broken = sorted([(sum(row), row) for row, outcome in rows if outcome is None])
        self.table = tuple(rows)
        self.least_values = broken[0][1] if broken else None
        self._program = program
        self._kinds = kinds
        self._outcomes = {row: outcome for row, outcome in rows}

    def __bool__(self):
        return self.least_values is None

    def __len__(self):
        return len(self.table)

    def __iter__(self):
        return iter(self.table)

    def outcome(self, values):
        """The outcome for some values, however great."""
        check_values(self._program, values, None)
        row = []
        for name in self._program.variables:
            lag, period = self._kinds[name]
            row.append(least_alike(values[name], lag, period))
        return self._outcomes[tuple(row)]
