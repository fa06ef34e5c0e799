"""Programs: what a marshal calls, with waits, repeats, answers and variables."""

from tailheard.checks import check_words, frozen, in_bounds, is_letter, is_name, is_tuple
from tailheard.errors import BadStatement, TooLong, TooMany, Twice

MOST_AMOUNT = 99
MOST_BODIES = 4
MOST_STATEMENTS = 30
MOST_VARIABLES = 3


def is_amount(thing):
    """Whether a thing is a number of times or beats, or the name of a variable."""
    return in_bounds(thing, 0, MOST_AMOUNT) or is_name(thing)


def is_statement(words, row):
    """Whether a row has the form of a statement in itself: its body need only be a tuple."""
    if is_tuple(row, 2, 2):
        return row[0] == "say" and is_letter(row[1], words) or row[0] == "wait" and is_amount(row[1])
    if is_tuple(row, 3, 3):
        return row[0] == "repeat" and is_amount(row[1]) and isinstance(row[2], tuple)
    return row == ("answer",)


def all_statements(words, script):
    """All statements, each ahead of those in its body; BadStatement at the first one that is not as told."""
    found = []
    stack = [(row, 0) for row in script[::-1]]
    while stack:
        row, bodies = stack.pop()
        if bodies > MOST_BODIES or not is_statement(words, row):
            raise BadStatement(len(found))
        found.append(row)
        if row[0] == "repeat":
            stack.extend([(part, bodies + 1) for part in row[2][::-1]])
    return tuple(found)


def variables_of(rows):
    """The names of the variables of some statements, in order; Twice for one that is there already."""
    names = []
    for row in rows:
        if row[0] in ("wait", "repeat") and isinstance(row[1], str):
            if row[1] in names:
                raise Twice(row[1])
            names.append(row[1])
    return tuple(names)


class Program:
    """Words and a script."""

    def __init__(self, words, script):
        check_words(words)
        body = frozen(script)
        if not isinstance(body, tuple):
            raise BadStatement(-1)
        rows = all_statements(words, body)
        if len(rows) > MOST_STATEMENTS:
            raise TooLong(len(rows))
        names = variables_of(rows)
        if len(names) > MOST_VARIABLES:
            raise TooMany("variable")
        self.words = words
        self.script = body
        self._rows = rows
        self._names = names

    def __len__(self):
        return len(self._rows)

    def __eq__(self, other):
        return isinstance(other, Program) and self.words == other.words and self.script == other.script

    @property
    def variables(self):
        """The names of the variables, in the order in which they are written."""
        return self._names

    def statements(self):
        """All statements in the order of their numbers, one by one."""
        for row in self._rows:
            yield row
