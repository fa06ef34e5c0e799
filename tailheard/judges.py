"""How tables are judged whose rows ask for other rows."""

from tailheard.checks import frozen


def judged(table, beginnings, has_form, split, is_right):
    """The number of the first row of a table that is not right, -1 if it lacks a beginning; None if all is well.

    `split` tells of a row with the form told what it is about, and what it tells of it; `is_right` is asked for
    a row together with what the first rows with the form told tell of each thing.
    """
    rows = frozen(table)
    if not isinstance(rows, tuple):
        return -1
    told = {}
    for row in rows:
        if has_form(row):
            about, worth = split(row)
            told.setdefault(about, worth)
    if not all([beginning in told for beginning in beginnings]):
        return -1
    for at, row in enumerate(rows):
        if not has_form(row) or not is_right(told, row):
            return at
    return None


def judge_closed(table, beginnings, has_form, is_right):
    """What is wrong with a table whose rows are the very things that they are about."""
    return judged(table, beginnings, has_form, lambda row: (row, True), is_right)


def judge_ranked(table, beginning, has_form, is_right):
    """What is wrong with a table whose rows are pairs of a thing and what is told of it."""
    return judged(table, [beginning], has_form, lambda row: row, is_right)
