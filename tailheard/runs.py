"""Runs: what befalls a column beat by beat when its head hears a calling."""

from tailheard.checks import check_calling, in_bounds
from tailheard.errors import BadBeats
from tailheard.films import film_of

MOST_RUN = 1000


def beats_of(column, calling, beats):
    """The number of beats of a run, BadBeats if it is not as told."""
    if beats is None:
        return len(calling) + column.delay_row[-1]
    if not in_bounds(beats, 0, MOST_RUN):
        raise BadBeats(beats)
    return beats


class Run:
    """A column, a calling that its head hears, and a number of beats."""

    def __init__(self, column, calling, beats=None):
        check_calling(column.make.words, calling)
        self.column = column
        self.calling = calling
        self.beats = beats_of(column, calling, beats)
        self._film = film_of(column, calling, self.beats)

    def __len__(self):
        return len(self._film.standings)

    def __iter__(self):
        return iter(self._film.standings)

    def standings_at(self, beat):
        """The standings of the groups at a beat."""
        self._film.check_beat(beat)
        return self._film.standings[beat]

    def fronts_at(self, beat):
        """The places of the fronts at a beat."""
        self._film.check_beat(beat)
        return self._film.fronts[beat]

    def gaps_at(self, beat):
        """The gaps between neighbours at a beat."""
        self._film.check_beat(beat)
        return self._film.gaps_of(beat)

    def length_at(self, beat):
        """The length of the column at a beat."""
        self._film.check_beat(beat)
        return self._film.length_of(beat)

    def first_breach(self, wish):
        """The beat and the group behind which a gap does not keep a wish first, None if all keep it."""
        return self._film.first_breach(wish)
