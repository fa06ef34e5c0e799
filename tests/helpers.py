"""Makes, plans and plain lookers that many tests share."""

import itertools
import random

from tailheard.drills import Drill
from tailheard.makes import Make
from tailheard.plans import Plan

# Words ab: `a` sets off (stride 1), `b` halts; silence keeps the standing.
WALK = ((0, 2, (0, 1, 0)), (1, 2, (1, 1, 0)))
# A word stretches the group for one beat.
STRETCH = ((0, 1, (0, 1, 1)), (0, 3, (0, 0, 0)))
FREE = Plan([[(".", 0), ("a", 0), ("b", 0)]])


def walkers(**more):
    """A make whose one kind walks between `a` and `b`."""
    return Make("ab", [("A", 1, WALK)], **more)


def two_kinds(**more):
    """A make with a walking kind and a stretching kind, the latter told first."""
    return Make("ab", [("B", 2, STRETCH), ("A", 1, WALK)], **more)


def raised(kind, call, *things, **more):
    """The error of a kind that a call raises; a failure if it raises none."""
    try:
        call(*things, **more)
    except kind as error:
        if error.__class__ is not kind:
            raise
        return error
    raise AssertionError(f"no {kind.__name__}")


def random_standings(rng, signs, most=4, steady=False, stride=1):
    """The standings of a random drill."""
    many = rng.randint(1, most)
    rows = []
    for at in range(many):
        nexts = [rng.randrange(many) for _ in range(signs)]
        if at == 0 or steady:
            nexts[0] = at
        rows.append((0 if at == 0 else rng.randint(-stride, stride), rng.randint(1, 3), tuple(nexts)))
    return tuple(rows)


def random_make(rng, kinds=2, words="ab", steady=False, stride=1):
    """A random make."""
    names = rng.sample("ABCD", kinds)
    rows = [(name, rng.randint(1, 2), random_standings(rng, len(words) + 1, steady=steady, stride=stride))
            for name in names]
    seats = [(one, two, rng.randint(0, 4)) for one in names for two in names if rng.random() < 0.4]
    return Make(words, rows, rng.randint(0, 5), seats)


def random_plan(rng, signs, most=4, share=0.5):
    """A random plan with some of the signs."""
    while True:
        many = rng.randint(1, most)
        states = [[(sign, rng.randrange(many)) for sign in sorted(signs) if rng.random() < share]
                  for _ in range(many)]
        ends = sorted(rng.sample(range(many), rng.randint(1, many)))
        try:
            return Plan(states, ends)
        except ValueError:
            continue


def all_texts(signs, most):
    """All strings of some signs with at most so many characters, ordered by length."""
    layer = [""]
    for _ in range(most + 1):
        yield from layer
        layer = [text + sign for text in layer for sign in sorted(signs)]


def bears(plan, text):
    """Whether a plan bears a string, told from its attributes alone."""
    state = 0
    for sign in text:
        found = [onto for own, onto in plan.states[state] if own == sign]
        if not found:
            return False
        state = found[0]
    return state in plan.ends


def hears(plan, text):
    """Whether a string is heard, told as the document tells it."""
    for cut in range(len(text) + 1):
        if set(text[cut:]) <= {"."} and bears(plan, text[:cut]):
            return True
    state = 0
    for sign in text:
        found = [onto for own, onto in plan.states[state] if own == sign]
        if not found:
            return False
        state = found[0]
    return True


def heard_texts(plan, signs, most):
    """The strings with at most so many characters that are heard, ordered by length."""
    return [text for text in all_texts(signs, most) if hears(plan, text)]


def gap_behind(make, ahead, behind, text):
    """The gap of two kinds, and their standings, when the one ahead has heard a string."""
    drill = {name: Drill(make.words, rows) for name, lag, rows in make.kinds}
    lag = make.lag_of(ahead)
    late = ("." * lag + text)[:len(text)]
    first = drill[ahead](0, text)
    second = drill[behind](0, late)
    front = drill[ahead].walk(0, text)
    rest = make[ahead].standings[0][1]
    gap = make.seat_of(ahead, behind) + front - (drill[ahead][first][1] - rest) - drill[behind].walk(0, late)
    return gap, first, second


def seeded(number):
    """A random source that tells the same in every run of the tests."""
    return random.Random(number)


def crowd(more):
    """A make with one kind that only stands, and a calling plan with so many betweens.

    From the beginning, any of four signs leads to a round of nine states, in which any of them leads on: 9 * 64
    betweens, 16 of the ended calling, and 1 at the beginning; `d` leads to a row of states with one between each.
    """
    make = Make("abcd", [("A", 3, ((0, 1, (0,) * 5),)), ("B", 3, ((0, 1, (0,) * 5),)), ("C", 1, ((0, 1, (0,) * 5),))])
    row = more - 9 * 64 - 16 - 1
    states = [[(sign, 1) for sign in ".abc"] + [("d", 10)]]
    states += [[(sign, at % 9 + 1) for sign in ".abc"] for at in range(1, 10)]
    states += [[(".", at)] for at in range(11, 10 + row)] + [[]]
    return make, Plan(states, [9, len(states) - 1])


def gap_row(make, ahead, behind, text):
    """The gaps of two kinds when the one ahead has heard each beginning of a string."""
    return [gap_behind(make, ahead, behind, text[:cut])[0] for cut in range(len(text) + 1)]


def random_walkers(rng, words="ab", most=4):
    """A random make of two kinds whose drills walk in both directions."""
    rows = [(name, rng.randint(1, 2), random_standings(rng, len(words) + 1, most=most, stride=rng.choice([1, 1, 3])))
            for name in "AB"]
    return Make(words, rows, rng.randint(0, 5))


def waited_texts(plan, signs, most):
    """The strings with at most so many characters that are some silences and then a string that is heard."""
    found = {"." * wait + text: True for text in heard_texts(plan, signs, most) for wait in range(most + 1 - len(text))}
    return sorted(found, key=lambda text: (len(text), text))


def late_word(silences, words):
    """A plan that bears one string: so many silences, and then some words."""
    states = [[(sign, at + 1)] for at, sign in enumerate("." * silences + words)]
    return Plan([*states, []], [len(states)])


def many_doubles(more):
    """Two calling plans under which two walkers have 1,200 doubles, or 1,201."""
    if more:
        return late_word(17, "aa"), late_word(54, "b")
    return late_word(18, "a"), late_word(54, "b")


def plain_steps(plan, state):
    """The steps of a hearing state from the attributes of the plan alone."""
    if state == -1:
        return [(".", -1)]
    found = [(".", -2)] if state == -2 else []
    found += list(plan.states[max(state, 0)])
    if max(state, 0) in plan.ends:
        found.append((".", -1))
    return sorted(found)


def plain_onward(make, ahead, behind, downs, ups, double):
    """The triples of all steps of a double, told from the attributes of makes and plans alone."""
    down, up, first, second, below, above = double

    def led(name, standing, signs):
        words = [sign for sign in signs if sign != "."] or ["."]
        for word in words:
            standing = make[name][standing][2][("." + make.words).index(word)]
        return standing

    found = []
    for one, down_onto in plain_steps(downs, down):
        for two, up_onto in plain_steps(ups, up):
            leader, follower = led(ahead, first, (one, above[0])), led(behind, second, (below[0], two))
            change = (make[ahead][leader][0] + make[ahead][first][1] - make[ahead][leader][1]
                      - make[behind][follower][0])
            found.append(((one, two), change, (down_onto, up_onto, leader, follower, below[1:] + one, above[1:] + two)))
    return tuple(sorted(found))


class Looker:
    """How signs lead two neighbours whose gap must keep a wish, told beat by beat."""

    def __init__(self, make, ahead, behind, wish):
        rows = {name: standings for name, _, standings in make.kinds}
        self.one, self.two = rows[ahead], rows[behind]
        self.signs = "." + make.words
        self.lag = make.lag_of(ahead)
        self.seat = make.seat_of(ahead, behind)
        self.wish = wish
        self.known = {}

    def beat(self, state, sign):
        """The pair state behind a sign, None if the wish is broken."""
        if state is not None and (state, sign) not in self.known:
            first, second, window, gap = state
            leader = self.one[first][2][self.signs.index(sign)]
            follower = self.two[second][2][self.signs.index(window[0])]
            gap += self.one[leader][0] + self.one[first][1] - self.one[leader][1] - self.two[follower][0]
            onto = (leader, follower, window[1:] + sign, gap)
            self.known[state, sign] = onto if self.wish[0] <= gap <= self.wish[1] else None
        return None if state is None else self.known[state, sign]

    def states(self):
        windows = [text for text in all_texts(self.signs, self.lag) if len(text) == self.lag]
        return list(itertools.product(range(len(self.one)), range(len(self.two)), windows,
                                      range(self.wish[0], self.wish[1] + 1)))

    def outcome(self, text):
        """The pair state behind a calling; None if the wish is broken then or by silence."""
        state = (0, 0, "." * self.lag, self.seat) if self.wish[0] <= self.seat <= self.wish[1] else None
        for sign in text:
            state = self.beat(state, sign)
        last, seen = state, set()
        while last is not None and last not in seen:
            seen.add(last)
            last = self.beat(last, ".")
        return None if last is None else state

    def kinds(self, texts):
        """The least period, and the least lag for it, of passes of any of some strings over all pair states."""
        states = self.states()
        rows = []
        for text in texts:
            onward = {None: None}
            for state in states:
                last = state
                for sign in text:
                    last = self.beat(last, sign)
                onward[state] = last
            layers = [states]
            for _ in range(100):
                layers.append([onward[state] for state in layers[-1]])
            rows.append(layers)
        period = [period for period in range(1, 41) if all(row[60] == row[60 + period] for row in rows)][0]
        lag = [lag for lag in range(61) if all(row[lag] == row[lag + period] for row in rows)][0]
        return lag, period


def plain_outcome(make, ahead, behind, wish, text):
    return Looker(make, ahead, behind, wish).outcome(text)


def plain_beat(places, ways, rules, situation, offer):
    """The situation behind a beat, the ways that are left and the ways that rest, told group by group."""
    groups, waiting, memories = situation
    waits = [wait or sign == "g" for wait, sign in zip(waiting, offer)]
    here = {ways[way][index]: (way, index) for way, index in groups}
    claims = {}
    for way in range(len(ways)):
        if waits[way]:
            claims[way, 0] = "entrance"
    for way, index in groups:
        if index + 1 < len(ways[way]):
            claims[way, index + 1] = (way, index)
    onward, after = {}, list(memories)
    for place in range(places):
        own = sorted(spot for spot in claims if ways[spot[0]][spot[1]] == place)
        if place in here or not own:
            continue
        spot = own[0]
        for at, memory, sight, told, further in rules:
            if at == place and memory == memories[place] and all(
                    sign == "?" or (sign == "#") == (each in here) for each, sign in enumerate(sight)):
                spot, after[place] = told, further
                break
        if spot in claims:
            onward[spot] = claims[spot]
    moved = list(onward.values())
    left = [(way, index) for way, index in groups if index == len(ways[way]) - 1]
    stay = [spot for spot in groups if spot not in moved and spot not in left]
    further = (tuple(sorted(stay + list(onward))), tuple(int(bool(wait) and (way, 0) not in onward)
                                                         for way, wait in enumerate(waits)), tuple(after))
    rests = tuple(way for way in range(len(ways)) if (waits[way] or any(spot[0] == way for spot in groups))
                  and not any(spot[0] == way for spot in list(onward) + left))
    return further, tuple(way for way, _ in left), rests


def random_crossing(rng, places=None, ways=None, most_rules=4, longest=4):
    """The places, ways and rules of a random crossing."""
    from tailheard.crossings import Crossing
    while True:
        many = places or rng.randint(2, 4)
        rows = []
        for _ in range(ways or rng.randint(1, 2)):
            row = [rng.randrange(many)]
            for _ in range(rng.randint(0, longest - 1)):
                row.append(rng.choice([place for place in range(many) if place != row[-1]]))
            rows.append(tuple(row))
        spots = [(way, index) for way, row in enumerate(rows) for index in range(len(row))]
        rules = []
        for _ in range(rng.randint(0, most_rules)):
            way, index = rng.choice(spots)
            rules.append((rows[way][index], rng.randint(0, 1), "".join(rng.choice("???.#") for _ in range(many)),
                          rng.choice([(way, index), (way, index), None]), rng.randint(0, 2)))
        try:
            return Crossing(many, rows, rules)
        except ValueError:
            continue


def plain_obstacle(obstacle, stream):
    """What comes out of an obstacle, told group by group."""
    arrivals = {}
    row = 0
    for beat, sign in enumerate(stream):
        if sign != ".":
            branch, row = obstacle.table[row][obstacle.names.index(sign)]
            order = branch if obstacle.first == 0 else 1 - branch
            arrivals.setdefault(beat + obstacle.delays[branch], []).append((order, sign))
    queue = []
    out = ""
    for beat in range(len(stream)):
        queue += [sign for _, sign in sorted(arrivals.get(beat, []))]
        out += queue.pop(0) if queue else "."
    return out


def random_obstacle(rng, names="AB", most=4):
    """A random obstacle."""
    from tailheard.obstacles import Obstacle
    rows = rng.randint(1, 4)
    table = [[(rng.randint(0, 1), rng.randrange(rows)) for _ in names] for _ in range(rows)]
    return Obstacle(names, table, (rng.randint(1, most), rng.randint(1, most)), rng.randint(0, 1))


def plain_feet(make, groups, has_band, slow, cycle, earshot, relay):
    """The feet of a column, and for each group how far it is behind its last band, told group by group."""
    fronts = [0]
    for ahead, behind in zip(groups, groups[1:]):
        fronts.append(fronts[-1] - make[ahead][0][1] - make.seat_of(ahead, behind))
    feet, fars = [], []
    for at in range(len(groups)):
        bands = [number for number in range(at) if has_band[number]]
        heard = None
        if bands and fronts[bands[-1]] - fronts[at] <= earshot:
            heard = (feet[bands[-1]] + slow * (fronts[bands[-1]] - fronts[at])) % cycle
        fars.append(heard)
        if has_band[at]:
            feet.append(heard if relay and heard is not None else 0)
        elif heard is not None:
            feet.append(heard)
        else:
            feet.append(feet[-1] if at else 0)
    return feet, fars


def plain_apart(cycle, first, second):
    """By how many ticks two feet are apart, found by trying."""
    return min(ticks for ticks in range(cycle) if second in ((first + ticks) % cycle, (first - ticks) % cycle))


def random_tune(rng, make):
    """A random tune of a make."""
    from tailheard.feet import Tune
    bands = "".join(name for name in make.all_names if rng.random() < 0.5)
    return Tune(make, bands, rng.randint(0, 12), rng.randint(2, 20), rng.randint(0, 25), rng.random() < 0.5)
