"""Rules of a menu that let a crossing let through."""

from tailheard.checks import frozen, is_tuple
from tailheard.crossings import MOST_RULES, Crossing, check_rules
from tailheard.errors import BadRule
from tailheard.maps import choices_below
from tailheard.through import Through

MOST_MENU = 5


def least_rules(crossing, menu):
    """The least choices of rules of a menu with which a crossing lets through."""
    rows = frozen(menu)
    if not is_tuple(rows, 0, MOST_MENU) or len(crossing) + len(rows) > MOST_RULES:
        raise BadRule(-1)
    check_rules(crossing.places, crossing.ways, rows, MOST_MENU)
    found = []
    for choice in choices_below(len(rows)):
        if not any([all([number in choice for number in part]) for part in found]):
            rules = [*crossing.rules, *[rows[number] for number in choice]]
            if Through(Crossing(crossing.places, crossing.ways, rules)):
                found.append(choice)
    return tuple(found)
