"""Order: whether groups overtake one another at an obstacle."""

from tailheard.checks import in_bounds, is_tuple
from tailheard.errors import BadWait
from tailheard.heard import ENDED, steps
from tailheard.judges import judge_closed
from tailheard.obstacles import check_names, has_branches
from tailheard.plans import Plan, check_signs
from tailheard.trees import whole_tree

MOST_PASSAGES = 700
MOST_SPACING = 6
# A passage hangs on the row four beats ago and the four signs since then: there are fewer than so many.
ALL_PASSAGES = 10000


class Passages:
    """The passages of an obstacle for a stream plan.

    Attribute: the first passage.
    """

    def __init__(self, obstacle, plan):
        check_signs(plan, "." + obstacle.names)
        self.origin = (0, *obstacle.beginning[:3])
        self._obstacle = obstacle
        self._heard = {state: steps(plan, state) for state in range(ENDED, len(plan))}

    def onward(self, passage):
        """The pairs (sign, passage) of the steps of a passage."""
        state, row, zero, one = passage
        found = []
        for sign, onto in self._heard[state]:
            further, onto_zero, onto_one = self._obstacle.parted(row, sign)
            found.append((sign, (onto, further, zero[1:] + onto_zero, one[1:] + onto_one)))
        return found

    def overtakes(self, passage):
        """Whether a group that arrives at the next beat overtakes one that the branches tell."""
        first = self._obstacle.first
        return is_ahead(passage[2], passage[3], first == 0) or is_ahead(passage[3], passage[2], first == 1)

    def tree(self, most):
        """The tree of all passages; TooMany if there are more than the most."""
        return whole_tree(self.origin, lambda passage: self.onward(passage), most, "passage")

    def has_form(self, thing):
        """Whether a thing has the form of a passage."""
        if not is_tuple(thing, 4, 4) or not in_bounds(thing[0], ENDED, len(self._heard) - 2):
            return False
        return has_branches(self._obstacle, thing[1:])


def is_ahead(branch, other, is_first):
    """Whether the group that arrives from a branch next overtakes one in the other branch.

    Strings tell who went into the branches, the last ones at the same beat; `is_first` tells whether groups of this
    branch are put ahead of those that arrive from the other one at the same beat.
    """
    if branch[0] == ".":
        return False
    earlier = other[:max(0, len(other) - len(branch))]
    return earlier[0 if is_first else 1:].replace(".", "") != ""


def least_overtaking(passages, tree):
    """The least stream at whose last beat a group overtakes another one, None if there is none."""
    found = []
    for passage in tree.ordered():
        if passages.overtakes(passage):
            stream = "".join(tree.signs_to(passage)) + min([sign for sign, onto in passages.onward(passage)])
            found.append((len(stream), stream))
    return min(found)[1] if found else None


class KeepsOrder:
    """Whether an obstacle keeps order: a table of passages if it does, a stream if not."""

    def __init__(self, obstacle, plan):
        passages = Passages(obstacle, plan)
        tree = passages.tree(MOST_PASSAGES)
        self.stream = least_overtaking(passages, tree)
        self.table = tuple(tree.ordered()) if self.stream is None else None
        self._rows = self.table or ()

    def __bool__(self):
        return self.stream is None

    def __len__(self):
        return len(self._rows)

    def __iter__(self):
        return iter(self._rows)


def is_right(passages, told, row):
    """Whether a passage is right by itself."""
    return not passages.overtakes(row) and all([onto in told for sign, onto in passages.onward(row)])


def judge_order(obstacle, plan, table):
    """What is wrong with a table of passages, None if it is closed."""
    passages = Passages(obstacle, plan)

    def has_form(row):
        return passages.has_form(row)

    return judge_closed(table, [passages.origin], has_form, lambda told, row: is_right(passages, told, row))


def spaced_streams(names, spacing):
    """The plan of the streams with at least so many silences between any two groups."""
    check_names(names)
    if not in_bounds(spacing, 0, MOST_SPACING):
        raise BadWait(spacing)
    states = [[(".", 0), *[(name, spacing) for name in names]]]
    for state in range(spacing):
        states.append([(".", state)])
    return Plan(states)


def least_spacing(obstacle):
    """The least spacing with which an obstacle keeps order for spaced streams."""
    spacing = 0
    while True:
        passages = Passages(obstacle, spaced_streams(obstacle.names, spacing))
        if least_overtaking(passages, passages.tree(ALL_PASSAGES)) is None:
            return spacing
        spacing = spacing + 1
