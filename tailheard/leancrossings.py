"""Rules that a crossing does not need."""

from tailheard.crossingpairs import CrossingPair


def is_needless(crossing, number):
    """Whether the crossing without a rule is alike to the crossing."""
    return bool(CrossingPair(crossing.without(number), crossing))


def needless(crossing):
    """The numbers of the rules each of which is needless, ascending."""
    return tuple([number for number in range(len(crossing)) if is_needless(crossing, number)])


def lean(crossing):
    """The crossing without each rule that is needless when those ahead of it have been looked at."""
    kept = crossing
    number = 0
    while number < len(kept):
        if is_needless(kept, number):
            kept = kept.without(number)
        else:
            number = number + 1
    return kept
