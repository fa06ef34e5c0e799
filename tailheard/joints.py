"""Joints: what a calling leads to, in all columns of a column plan at once."""

from tailheard.checks import frozen, in_bounds, is_integer, is_tuple, keeps, wish_of
from tailheard.errors import BadGoal
from tailheard.heard import names_in, neighbours
from tailheard.plans import check_column_plan
from tailheard.tandems import Tandem


def check_goal(make, goal):
    """Raise BadGoal unless this tells for each kind a standing that silence leads to itself."""
    if not is_tuple(goal, len(make), len(make)):
        raise BadGoal(-1)
    for at, name in enumerate(make):
        standings = make[name].standings
        if not in_bounds(goal[at], 0, len(standings) - 1) or standings[goal[at]][2][0] != goal[at]:
            raise BadGoal(at)


class Joints:
    """The joints of a column plan, with a wish and a goal.

    Attributes: the signs of the make, and the joint of the empty calling.
    """

    def __init__(self, make, columns, wish, goal):
        check_column_plan(make, columns)
        self.wish = wish_of(wish)
        ready = frozen(goal)
        check_goal(make, ready)
        names = names_in(columns)
        pairs = neighbours(make, columns)
        self.signs = "." + make.words
        self._drills = [make[name] for name in names]
        self._leaders = [names.index(ahead) for ahead, behind in pairs]
        self._tandems = [Tandem(make, ahead, behind) for ahead, behind in pairs]
        self._goal = tuple([ready[make.all_names.index(name)] for name in names])
        triples = [(0, "." * tandem.lag, tandem.seat) for tandem in self._tandems]
        self.origin = ((0,) * len(names), tuple(triples))

    def are_kept(self, joint):
        """Whether all gaps of a joint keep the wish."""
        return all([keeps(self.wish, gap) for second, window, gap in joint[1]])

    def led_on(self, joint, sign):
        """The joint behind a joint and a sign more."""
        standings, triples = joint
        further = []
        for tandem, at, (second, window, gap) in zip(self._tandems, self._leaders, triples):
            change, leader, follower, onto = tandem.moved(standings[at], second, window, sign)
            further.append((follower, onto, gap + change))
        place = self.signs.index(sign)
        led = [drill.standings[standing][2][place] for drill, standing in zip(self._drills, standings)]
        return (tuple(led), tuple(further))

    def kept_behind(self, joint):
        """The pairs (sign, joint) of the joints behind one sign more whose gaps keep the wish, ascending by sign."""
        found = [(sign, self.led_on(joint, sign)) for sign in self.signs]
        return [(sign, onto) for sign, onto in found if self.are_kept(onto)]

    def is_settled(self, joint):
        """Whether a joint has the standings of the goal, and its gaps keep the wish under silence for ever."""
        seen = {}
        now = joint
        # As the gaps keep the wish, there are finitely many joints behind silence.
        while joint[0] == self._goal and self.are_kept(now) and now not in seen:
            seen[now] = True
            now = self.led_on(now, ".")
        return now in seen

    def has_form(self, thing):
        """Whether a thing has the form of a joint."""
        if not is_tuple(thing, 2, 2) or not is_tuple(thing[0], len(self._drills), len(self._drills)):
            return False
        if not all([in_bounds(at, 0, len(drill.standings) - 1) for drill, at in zip(self._drills, thing[0])]):
            return False
        if not is_tuple(thing[1], len(self._tandems), len(self._tandems)):
            return False
        return all([has_triple_form(tandem, triple) for tandem, triple in zip(self._tandems, thing[1])])


def has_triple_form(tandem, thing):
    """Whether a thing has the form of what a joint tells of two neighbours."""
    if not is_tuple(thing, 3, 3) or not is_integer(thing[2]):
        return False
    return tandem.is_second(thing[0]) and tandem.is_window(thing[1])
