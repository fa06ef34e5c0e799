"""Plans: which strings can be called, and which columns there can be."""

from tailheard.checks import SIGNS, frozen, in_bounds, is_integer, is_letter, is_rising, is_text, is_tuple
from tailheard.errors import BadMost, BadPlan, BadSample, BadSign, Empty, NoStanding
from tailheard.rows import MOST_STATES, first_text, flags_of, hopeful, hopes_by_length
from tailheard.rows import least_rows, side_by_side, tree_of

MOST_TEXT = 60
MOST_SAMPLE = 30
MOST_SAMPLES = 20


def is_state(row, many):
    """Whether a row has the form of a state, where there are so many states."""
    if not isinstance(row, tuple):
        return False
    for pair in row:
        if not is_tuple(pair, 2, 2) or not is_letter(pair[0], SIGNS) or not in_bounds(pair[1], 0, many - 1):
            return False
    return is_rising([sign for sign, onto in row])


def are_ends(ends, many):
    """Whether these are ends of a plan with so many states."""
    if not is_tuple(ends, 1, many) or not all([is_integer(end) for end in ends]):
        return False
    return ends[0] >= 0 and ends[-1] < many and is_rising(ends)


def wrong_state(rows, ends):
    """The number of the first state that is not as told, -1 if the whole is not; None if all is well."""
    for at, row in enumerate(rows):
        if not is_state(row, len(rows)):
            return at
    for at, hope in enumerate(hopeful(rows, flags_of(len(rows), ends))):
        if not hope:
            return at
    return None


class Plan:
    """States and ends."""

    def __init__(self, states, ends=None):
        rows = frozen(states)
        if not is_tuple(rows, 1, MOST_STATES):
            raise BadPlan(-1)
        last = frozen(ends)
        if last is None:
            last = tuple(range(len(rows)))
        if not are_ends(last, len(rows)):
            raise BadPlan(-1)
        wrong = wrong_state(rows, last)
        if wrong is not None:
            raise BadPlan(wrong)
        self.states = rows
        self.ends = last

    def __len__(self):
        return len(self.states)

    def __iter__(self):
        return iter(self.states)

    def __eq__(self, other):
        return isinstance(other, Plan) and self.states == other.states and self.ends == other.ends

    def __contains__(self, text):
        return isinstance(text, str) and state_behind(self, text) in self.ends

    def __call__(self, state, sign):
        if not in_bounds(state, 0, len(self.states) - 1):
            raise NoStanding(state)
        return onto_of(self, state, sign)

    def __or__(self, other):
        if not isinstance(other, Plan):
            return NotImplemented
        order, rows, sources = side_by_side(self.states, other.states)
        states, ends = least_rows(rows, [one in self.ends or two in other.ends for one, two in order])
        return Plan(states, ends)

    def __and__(self, other):
        if not isinstance(other, Plan):
            return NotImplemented
        order, rows, sources = side_by_side(self.states, other.states)
        flags = [one in self.ends and two in other.ends for one, two in order]
        if not hopeful(rows, flags)[0]:
            raise Empty()
        states, ends = least_rows(rows, flags)
        return Plan(states, ends)

    @property
    def least_text(self):
        """The least string that the plan bears."""
        return first_text(self.states, flags_of(len(self.states), self.ends))

    @classmethod
    def bearing(cls, strings):
        """The least plan that bears just these strings."""
        texts = frozen(strings)
        if not is_tuple(texts, 1, MOST_SAMPLES):
            raise BadSample(-1)
        for at, text in enumerate(texts):
            if not is_text(text, SIGNS, 0, MOST_SAMPLE):
                raise BadSample(at)
        rows, flags = tree_of(texts)
        states, ends = least_rows(rows, flags)
        return cls(states, ends)

    def strings(self, most):
        """The strings with at most so many characters that the plan bears, ordered by length, one by one."""
        if not in_bounds(most, 0, MOST_TEXT):
            raise BadMost(most)
        layers = hopes_by_length(self.states, flags_of(len(self.states), self.ends), most)
        for length in range(most + 1):
            # The least beginning lies on top of the stack, so each string can be told as soon as it is found.
            stack = [("", 0)] if layers[length][0] else []
            while stack:
                text, state = stack.pop()
                if len(text) == length:
                    yield text
                else:
                    hopes = layers[length - len(text) - 1]
                    onward = [(text + sign, onto) for sign, onto in self.states[state] if hopes[onto]]
                    stack.extend(onward[::-1])


def onto_of(plan, state, sign):
    """The state to which a sign leads, None if it leads to none."""
    for own, onto in plan.states[state]:
        if own == sign:
            return onto
    return None


def state_behind(plan, text):
    """The state to which a string leads, None if it leads to none."""
    state = 0
    for sign in text:
        state = onto_of(plan, state, sign)
        if state is None:
            return None
    return state


def least_plan(plan):
    """The plan with the fewest states that is alike to a plan."""
    states, ends = least_rows(plan.states, flags_of(len(plan.states), plan.ends))
    return Plan(states, ends)


def check_signs(plan, signs):
    """Raise BadSign for the first sign of a plan that is none of these."""
    for row in plan.states:
        for sign, onto in row:
            if sign not in signs:
                raise BadSign(sign)


def check_calls(make, plan):
    """Raise BadSign unless this is a calling plan of the make."""
    check_signs(plan, "." + make.words)


def check_column_plan(make, plan):
    """Raise BadSign unless this is a column plan of the make."""
    check_signs(plan, make.all_names)
