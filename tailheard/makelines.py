"""Makes written as lines, and read from them."""

from tailheard.checks import CAPITALS, check_words
from tailheard.drills import MOST_STANDINGS
from tailheard.linewords import LineWords
from tailheard.makes import MOST_LAG, MOST_SEAT, Make

# Which first words can come behind which; the empty one stands for the beginning.
BEHIND = {
    "": ("kind", "seat"),
    "kind": ("kind", "standing", "seat"),
    "standing": ("kind", "standing", "seat"),
    "seat": ("seat",),
}


def write_make(make):
    """The lines of a make."""
    lines = []
    for name, lag, standings in make.kinds:
        lines.append(f"kind {name} {lag}")
        for stride, body, nexts in standings:
            lines.append(" ".join(["standing", str(stride), str(body), *[str(onto) for onto in nexts]]))
    for ahead, behind, paces in make.seats:
        lines.append(f"seat {ahead} {behind} {paces}")
    return tuple(lines)


def read_standing(line, many):
    """The standing that a line tells behind its first word, with so many signs."""
    stride = line.take_integer(-3, 3)
    body = line.take_integer(1, 12)
    return (stride, body, [line.take_integer(0, MOST_STANDINGS - 1) for sign in range(many)])


def read_make(words, space, lines):
    """The make with these words and this space that lines tell."""
    check_words(words)
    kinds = []
    seats = []
    before = ""
    for number in range(len(lines)):
        line = LineWords(lines, number)
        before = line.take(BEHIND[before])
        if before == "kind":
            kinds.append((line.take(list(CAPITALS)), line.take_integer(1, MOST_LAG), []))
        elif before == "standing":
            kinds[-1][2].append(read_standing(line, len(words) + 1))
        else:
            ahead = line.take(list(CAPITALS))
            seats.append((ahead, line.take(list(CAPITALS)), line.take_integer(0, MOST_SEAT)))
        line.finish()
    return Make(words, kinds, space, seats)
