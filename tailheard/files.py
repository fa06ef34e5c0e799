"""Files: columns with a part that stands in them any number of times."""

from tailheard.checks import in_bounds, is_integer, is_text
from tailheard.columns import MOST_GROUPS, Column
from tailheard.errors import BadColumn, BadFile, BadNumber

MOST_NAMES = 20


def check_number(n):
    """Raise BadNumber unless this is an integer from 1."""
    if not is_integer(n) or n < 1:
        raise BadNumber(n)


class File:
    """A head, a part and a tail; in the column of a number the part stands so many times."""

    def __init__(self, make, head, part, tail):
        for word, text, least in (("head", head, 0), ("part", part, 1), ("tail", tail, 0)):
            if not is_text(text, make.all_names, least, MOST_NAMES):
                raise BadFile(word)
        self.make = make
        self.head = head
        self.part = part
        self.tail = tail

    def __eq__(self, other):
        return (isinstance(other, File) and self.make == other.make and self.head == other.head
                and self.part == other.part and self.tail == other.tail)

    def column_of(self, n):
        """The column of a number."""
        check_number(n)
        # A number can be far too great for its column to be written out.
        if not in_bounds(n, 1, MOST_GROUPS):
            raise BadColumn(-1)
        return Column(self.make, self.head + self.part * n + self.tail)

    def delay_of(self, n):
        """The delay of the last group of the column of a number."""
        check_number(n)
        return self.column_of(1).delay_row[-1] + (n - 1) * self.delay_of_part()

    def length_of(self, n):
        """The length at rest of the column of a number."""
        check_number(n)
        return self.column_of(1).rest_length + (n - 1) * self.length_of_part()

    def delay_of_part(self):
        """The delay that one more part adds."""
        return sum([self.make.lag_of(name) for name in self.part])

    def length_of_part(self):
        """The length at rest that one more part adds."""
        near = zip(self.part, self.part[1:] + self.part[0])
        return sum([self.make.body_of(ahead) + self.make.seat_of(ahead, behind) for ahead, behind in near])
