"""What is heard from a calling plan, and which kinds are neighbours in a column plan."""

from tailheard.checks import in_bounds
from tailheard.errors import NoStanding
from tailheard.plans import check_column_plan
from tailheard.rows import flags_of, trimmed

ENDED = -1
WAITING = -2


def steps(plan, state):
    """The steps of a hearing state, ascending."""
    if not in_bounds(state, WAITING, len(plan.states) - 1):
        raise NoStanding(state)
    if state == ENDED:
        return ((".", ENDED),)
    if state == WAITING:
        return tuple(sorted([(".", WAITING), *steps(plan, 0)]))
    found = list(plan.states[state])
    if state in plan.ends:
        found.append((".", ENDED))
    return tuple(sorted(found))


def hearing_states(plan, text):
    """The hearing states to which steps lead along a string from the hearing state 0, ascending."""
    found = (0,)
    for sign in text:
        onward = [onto for state in found for own, onto in steps(plan, state) if own == sign]
        found = tuple(sorted(set(onward)))
    return found


def is_heard(plan, text):
    """Whether a string is heard from a plan."""
    return len(hearing_states(plan, text)) > 0


def neighbours(make, plan):
    """The pairs of names of which, in some column of the plan, the one is directly ahead of the other."""
    check_column_plan(make, plan)
    rows, flags = trimmed(plan.states, flags_of(len(plan.states), plan.ends))
    found = {}
    for row in rows:
        for ahead, onto in row:
            for behind, further in rows[onto]:
                found[(ahead, behind)] = True
    return tuple(sorted(found))


def names_in(plan):
    """The ascending string of the signs of the strings that a plan bears."""
    rows, flags = trimmed(plan.states, flags_of(len(plan.states), plan.ends))
    return "".join(sorted(set([sign for row in rows for sign, onto in row])))
