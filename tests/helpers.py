"""Makes, plans and plain lookers that many tests share."""

import random

from tailheard.drills import Drill
from tailheard.makes import Make
from tailheard.plans import Plan

# Words ab: `a` sets off (stride 1), `b` halts; silence keeps the standing.
WALK = ((0, 2, (0, 1, 0)), (1, 2, (1, 1, 0)))
# A word stretches the group for one beat.
STRETCH = ((0, 1, (0, 1, 1)), (0, 3, (0, 0, 0)))
FREE = Plan([[(".", 0), ("a", 0), ("b", 0)]])


def walkers(**more):
    """A make whose one kind walks between `a` and `b`."""
    return Make("ab", [("A", 1, WALK)], **more)


def two_kinds(**more):
    """A make with a walking kind and a stretching kind, the latter told first."""
    return Make("ab", [("B", 2, STRETCH), ("A", 1, WALK)], **more)


def raised(kind, call, *things, **more):
    """The error of a kind that a call raises; a failure if it raises none."""
    try:
        call(*things, **more)
    except kind as error:
        if error.__class__ is not kind:
            raise
        return error
    raise AssertionError(f"no {kind.__name__}")


def random_standings(rng, signs, most=4, steady=False, stride=1):
    """The standings of a random drill."""
    many = rng.randint(1, most)
    rows = []
    for at in range(many):
        nexts = [rng.randrange(many) for _ in range(signs)]
        if at == 0 or steady:
            nexts[0] = at
        rows.append((0 if at == 0 else rng.randint(-stride, stride), rng.randint(1, 3), tuple(nexts)))
    return tuple(rows)


def random_make(rng, kinds=2, words="ab", steady=False, stride=1):
    """A random make."""
    names = rng.sample("ABCD", kinds)
    rows = [(name, rng.randint(1, 2), random_standings(rng, len(words) + 1, steady=steady, stride=stride))
            for name in names]
    seats = [(one, two, rng.randint(0, 4)) for one in names for two in names if rng.random() < 0.4]
    return Make(words, rows, rng.randint(0, 5), seats)


def random_plan(rng, signs, most=4, share=0.5):
    """A random plan with some of the signs."""
    while True:
        many = rng.randint(1, most)
        states = [[(sign, rng.randrange(many)) for sign in sorted(signs) if rng.random() < share]
                  for _ in range(many)]
        ends = sorted(rng.sample(range(many), rng.randint(1, many)))
        try:
            return Plan(states, ends)
        except ValueError:
            continue


def all_texts(signs, most):
    """All strings of some signs with at most so many characters, ordered by length."""
    layer = [""]
    for _ in range(most + 1):
        yield from layer
        layer = [text + sign for text in layer for sign in sorted(signs)]


def bears(plan, text):
    """Whether a plan bears a string, told from its attributes alone."""
    state = 0
    for sign in text:
        found = [onto for own, onto in plan.states[state] if own == sign]
        if not found:
            return False
        state = found[0]
    return state in plan.ends


def hears(plan, text):
    """Whether a string is heard, told as the document tells it."""
    for cut in range(len(text) + 1):
        if set(text[cut:]) <= {"."} and bears(plan, text[:cut]):
            return True
    state = 0
    for sign in text:
        found = [onto for own, onto in plan.states[state] if own == sign]
        if not found:
            return False
        state = found[0]
    return True


def heard_texts(plan, signs, most):
    """The strings with at most so many characters that are heard, ordered by length."""
    return [text for text in all_texts(signs, most) if hears(plan, text)]


def gap_behind(make, ahead, behind, text):
    """The gap of two kinds, and their standings, when the one ahead has heard a string."""
    drill = {name: Drill(make.words, rows) for name, lag, rows in make.kinds}
    lag = make.lag_of(ahead)
    late = ("." * lag + text)[:len(text)]
    first = drill[ahead](0, text)
    second = drill[behind](0, late)
    front = drill[ahead].walk(0, text)
    rest = make[ahead].standings[0][1]
    gap = make.seat_of(ahead, behind) + front - (drill[ahead][first][1] - rest) - drill[behind].walk(0, late)
    return gap, first, second


def seeded(number):
    """A random source that tells the same in every run of the tests."""
    return random.Random(number)


def crowd(more):
    """A make with one kind that only stands, and a calling plan with so many betweens.

    From the beginning, any of four signs leads to a round of nine states, in which any of them leads on: 9 * 64
    betweens, 16 of the ended calling, and 1 at the beginning; `d` leads to a row of states with one between each.
    """
    make = Make("abcd", [("A", 3, ((0, 1, (0,) * 5),)), ("B", 3, ((0, 1, (0,) * 5),)), ("C", 1, ((0, 1, (0,) * 5),))])
    row = more - 9 * 64 - 16 - 1
    states = [[(sign, 1) for sign in ".abc"] + [("d", 10)]]
    states += [[(sign, at % 9 + 1) for sign in ".abc"] for at in range(1, 10)]
    states += [[(".", at)] for at in range(11, 10 + row)] + [[]]
    return make, Plan(states, [9, len(states) - 1])


def gap_row(make, ahead, behind, text):
    """The gaps of two kinds when the one ahead has heard each beginning of a string."""
    return [gap_behind(make, ahead, behind, text[:cut])[0] for cut in range(len(text) + 1)]


def random_walkers(rng, words="ab", most=4):
    """A random make of two kinds whose drills walk in both directions."""
    rows = [(name, rng.randint(1, 2), random_standings(rng, len(words) + 1, most=most, stride=rng.choice([1, 1, 3])))
            for name in "AB"]
    return Make(words, rows, rng.randint(0, 5))


def waited_texts(plan, signs, most):
    """The strings with at most so many characters that are some silences and then a string that is heard."""
    found = {"." * wait + text: True for text in heard_texts(plan, signs, most) for wait in range(most + 1 - len(text))}
    return sorted(found, key=lambda text: (len(text), text))


def late_word(silences, words):
    """A plan that bears one string: so many silences, and then some words."""
    states = [[(sign, at + 1)] for at, sign in enumerate("." * silences + words)]
    return Plan([*states, []], [len(states)])


def many_doubles(more):
    """Two calling plans under which two walkers have 1,200 doubles, or 1,201."""
    if more:
        return late_word(17, "aa"), late_word(54, "b")
    return late_word(18, "a"), late_word(54, "b")
