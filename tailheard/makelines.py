"""Makes written as lines, and read from them."""

from tailheard.checks import CAPITALS, check_words
from tailheard.drills import MOST_STANDINGS
from tailheard.linewords import read_all
from tailheard.makes import MOST_LAG, MOST_SEAT, Make

# Which first words can come behind which; the empty one stands for the beginning.
BEHIND = {
    "": ("kind", "seat"),
    "kind": ("kind", "standing", "seat"),
    "standing": ("kind", "standing", "seat"),
    "seat": ("seat",),
}


def write_make(make):
    """The lines of a make."""
    lines = []
    for name, lag, standings in make.kinds:
        lines.append(f"kind {name} {lag}")
        for stride, body, nexts in standings:
            lines.append(" ".join(["standing", str(stride), str(body), *[str(onto) for onto in nexts]]))
    for ahead, behind, paces in make.seats:
        lines.append(f"seat {ahead} {behind} {paces}")
    return tuple(lines)


def read_standing(line, many):
    """The standing that a line tells behind its first word, with so many signs."""
    stride = line.take_integer(-3, 3)
    body = line.take_integer(1, 12)
    return (stride, body, [line.take_integer(0, MOST_STANDINGS - 1) for sign in range(many)])


class MakeReader:
    """A make as far as its lines have been read."""

    def __init__(self, words, space):
        self._words = words
        self._space = space
        self._kinds = []
        self._seats = []
        self._before = ""

    def is_open(self):
        """Whether an `end` would end something in it."""
        return False

    def read(self, line):
        """Take up one line."""
        self._before = line.take(BEHIND[self._before])
        if self._before == "kind":
            self._kinds.append((line.take(list(CAPITALS)), line.take_integer(1, MOST_LAG), []))
        elif self._before == "standing":
            self._kinds[-1][2].append(read_standing(line, len(self._words) + 1))
        else:
            ahead = line.take(list(CAPITALS))
            self._seats.append((ahead, line.take(list(CAPITALS)), line.take_integer(0, MOST_SEAT)))
        line.finish()

    def made(self):
        """The make that the lines tell."""
        return Make(self._words, self._kinds, self._space, self._seats)


def read_make(words, space, lines):
    """The make with these words and this space that lines tell."""
    check_words(words)
    return read_all(MakeReader(words, space), lines)
