"""Looks: what one sees of groups in their standings."""

from tailheard.checks import SMALL, frozen, is_text, is_tuple
from tailheard.errors import BadLooks


def looks_of(make, looks):
    """For each name of a make the looks of its drill; BadLooks if they are not as told."""
    rows = frozen(looks)
    if not is_tuple(rows, len(make), len(make)):
        raise BadLooks(-1)
    found = {}
    for at, name in enumerate(make):
        many = len(make[name])
        if not is_text(rows[at], SMALL, many, many):
            raise BadLooks(at)
        found[name] = rows[at]
    return found
