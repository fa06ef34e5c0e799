"""Waits: how many silences must be between any two words so that a wish is kept."""

from tailheard.checks import check_words, in_bounds, wish_of
from tailheard.errors import BadWait, BadWords
from tailheard.kept import Kept
from tailheard.plans import Plan, check_column_plan

MOST_WAIT = 12


def spaced_plan(words, wait):
    """The plan of the strings with at least so many silences between any two words."""
    check_words(words)
    if not in_bounds(wait, 0, MOST_WAIT):
        raise BadWait(wait)
    states = [[(".", 0), *[(word, wait) for word in words]]]
    for state in range(wait):
        states.append([(".", state)])
    return Plan(states)


class Waits:
    """The least wait under whose spaced plan a wish is kept, and the breaches for all smaller ones."""

    def __init__(self, make, columns, words, wish):
        check_column_plan(make, columns)
        check_words(words)
        if not all([word in make.words for word in words]):
            raise BadWords(words)
        bounds = wish_of(wish)
        breaches = []
        least_wait = None
        for wait in range(MOST_WAIT + 1):
            kept = Kept(make, columns, spaced_plan(words, wait), bounds)
            if kept:
                least_wait = wait
                break
            breaches.append(kept.breach)
        self.least_wait = least_wait
        self.breaches = tuple(breaches)

    def __len__(self):
        return len(self.breaches)

    def __iter__(self):
        return iter(self.breaches)
