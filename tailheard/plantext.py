"""Plan texts: plans written as one line."""

from tailheard.checks import SIGNS
from tailheard.errors import BadText
from tailheard.spots import plan_of_tree

MARKS = "*+?23456789"
MOST_OPEN = 6

BRANCH = 0
ITEM = 1
MARKED = 2


def place_behind(place, sign, depth):
    """Where a text stands behind a character, None if the character cannot stand there.

    The places are the beginning of a branch, behind an item without a mark, and behind a mark.
    """
    if sign in SIGNS:
        return ITEM
    if sign == "(" and depth < MOST_OPEN:
        return BRANCH
    if sign == ")" and depth > 0 and place != BRANCH:
        return ITEM
    if sign == "|" and place != BRANCH:
        return BRANCH
    if sign in MARKS and place == ITEM:
        return MARKED
    return None


def check_text(text):
    """Raise BadText unless this is a plan text."""
    if not isinstance(text, str):
        raise BadText(-1)
    depth = 0
    place = BRANCH
    for at, sign in enumerate(text):
        place = place_behind(place, sign, depth)
        if place is None:
            raise BadText(at)
        if sign == "(":
            depth = depth + 1
        if sign == ")":
            depth = depth - 1
    if depth > 0 or place == BRANCH:
        raise BadText(len(text))


def branches_at(text, at):
    """The tree of the branches that begin at an index, and the index behind them."""
    branches = []
    items = []
    while at < len(text) and text[at] != ")":
        if text[at] == "|":
            branches.append(("row", items))
            items = []
            at = at + 1
        else:
            item, at = item_at(text, at)
            items.append(item)
    branches.append(("row", items))
    return ("choice", branches), at


def item_at(text, at):
    """The tree of the item that begins at an index, and the index behind it."""
    if text[at] == "(":
        item, end = branches_at(text, at + 1)
    else:
        item, end = ("sign", text[at]), at
    behind = end + 1
    if behind < len(text) and text[behind] in MARKS:
        return marked(item, text[behind]), behind + 1
    return item, behind


def marked(item, mark):
    """The tree of an item with a mark."""
    if mark == "*":
        return ("star", item)
    if mark == "+":
        return ("plus", item)
    if mark == "?":
        return ("maybe", item)
    return ("times", item, int(mark))


def read_plan(text):
    """The plan of a plan text."""
    check_text(text)
    tree, end = branches_at(text, 0)
    return plan_of_tree(tree)
