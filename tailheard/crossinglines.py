"""Crossings written as lines, and read from them."""

from tailheard.crossings import MOST_MEMORY, MOST_PLACES, MOST_WAY, SIGHTS, Crossing
from tailheard.linewords import read_all

NOBODY = "-"


def write_spot(spot):
    """The word for the spot of a rule."""
    if spot is None:
        return NOBODY
    return f"{spot[0]},{spot[1]}"


def spot_words():
    """The words that a spot of a rule can have, and for each one the spot."""
    spots = [(way, index) for way in range(2) for index in range(MOST_WAY)]
    return {write_spot(spot): spot for spot in [None, *spots]}


def write_crossing(crossing):
    """The lines of a crossing."""
    lines = [" ".join(["way", *[str(place) for place in way]]) for way in crossing.ways]
    for place, memory, sight, spot, onward in crossing.rules:
        lines.append(f"rule {place} {memory} {sight} {write_spot(spot)} {onward}")
    return tuple(lines)


class CrossingReader:
    """A crossing as far as its lines have been read."""

    def __init__(self, places):
        self._places = places
        self._ways = []
        self._rules = []

    def is_open(self):
        """Whether an `end` would end something in it."""
        return False

    def read(self, line):
        """Take up one line."""
        word = line.take(["rule"] if self._rules else ["way", "rule"])
        if word == "way":
            way = []
            while not line.is_over():
                way.append(line.take_integer(0, MOST_PLACES - 1))
            self._ways.append(way)
        else:
            place = line.take_integer(0, MOST_PLACES - 1)
            memory = line.take_integer(0, MOST_MEMORY)
            sight = line.take_text(SIGHTS, 1, MOST_PLACES)
            words = spot_words()
            spot = words[line.take(words)]
            self._rules.append((place, memory, sight, spot, line.take_integer(0, MOST_MEMORY)))
        line.finish()

    def made(self):
        """The crossing that the lines tell."""
        return Crossing(self._places, self._ways, self._rules)


def read_crossing(places, lines):
    """The crossing with so many places that lines tell."""
    return read_all(CrossingReader(places), lines)
