"""Leads: callings that lead all columns of a column plan to a goal, all gaps keeping a wish."""

from tailheard.checks import frozen
from tailheard.errors import TooMany
from tailheard.joints import Joints

MOST_JOINTS = 800


def least_lead(joints):
    """The least lead, None if there is none, and the joints that are listed ahead of it."""
    first = joints.origin
    if joints.is_settled(first):
        return "", ()
    texts = {first: ""}
    listed = [first]
    at = 0
    while at < len(listed):
        here = listed[at]
        for sign, onto in joints.kept_behind(here):
            if onto not in texts:
                texts[onto] = texts[here] + sign
                if joints.is_settled(onto):
                    return texts[onto], tuple(listed)
                listed.append(onto)
                if len(listed) > MOST_JOINTS:
                    raise TooMany("joint")
        at = at + 1
    return None, tuple(listed)


class Lead:
    """Whether there is a lead: the least one if there is, a table of joints if not."""

    def __init__(self, make, columns, wish, goal):
        joints = Joints(make, columns, wish, goal)
        calling, listed = None, ()
        if joints.are_kept(joints.origin):
            calling, listed = least_lead(joints)
        self.calling = calling
        self.table = listed if calling is None else None
        self._rows = self.table or ()

    def __bool__(self):
        return self.calling is not None

    def __len__(self):
        return len(self._rows)

    def __iter__(self):
        return iter(self._rows)


def is_right(joints, told, row):
    """Whether a row with the form of a joint is right by itself."""
    if not joints.are_kept(row) or joints.is_settled(row):
        return False
    return all([onto in told for sign, onto in joints.kept_behind(row)])


def judge_leads(make, columns, wish, goal, table):
    """What is wrong with a table of joints, None if it is closed."""
    joints = Joints(make, columns, wish, goal)
    if not joints.are_kept(joints.origin):
        return None
    rows = frozen(table)
    if not isinstance(rows, tuple):
        return -1
    told = {row: True for row in rows if joints.has_form(row)}
    if joints.origin not in told:
        return -1
    for at, row in enumerate(rows):
        if not joints.has_form(row) or not is_right(joints, told, row):
            return at
    return None
