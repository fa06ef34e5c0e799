"""Talks: what befalls a column when words come down from its head and up from its last group."""

from tailheard.checks import check_calling, in_bounds
from tailheard.drills import led_by_two
from tailheard.errors import BadBeats, BadNumber
from tailheard.films import Film
from tailheard.meetings import check_moment, up_delays

MOST_TALK = 1000


def beats_of(column, down, up, down_at, up_at):
    """The beat at which all has been heard by all groups."""
    whole = column.delay_row[-1]
    ends = [at - 1 + len(calling) + whole for calling, at in ((down, down_at), (up, up_at)) if calling]
    return max([0, *ends])


def sign_at(calling, at):
    """The sign of a calling at an index, silence if there is none."""
    if 0 <= at < len(calling):
        return calling[at]
    return "."


class Talk:
    """A column, a calling that comes down, one that comes up, and a number of beats."""

    def __init__(self, column, down, up, *, down_at=1, up_at=1, beats=None):
        check_calling(column.make.words, down)
        check_calling(column.make.words, up)
        check_moment(down_at)
        check_moment(up_at)
        if beats is not None and not in_bounds(beats, 0, MOST_TALK):
            raise BadBeats(beats)
        self.column = column
        self.down = down
        self.up = up
        self.down_at = down_at
        self.up_at = up_at
        self.beats = beats_of(column, down, up, down_at, up_at) if beats is None else beats
        self._delays = tuple(zip(column.delay_row, up_delays(column)))
        self._film = Film(column, self.moments())

    def __len__(self):
        return len(self._film.standings)

    def __iter__(self):
        return iter(self._film.standings)

    def signs_at(self, number, beat):
        """The down sign and the up sign that a group hears at a beat."""
        delay, up_delay = self._delays[number]
        return (sign_at(self.down, beat - self.down_at - delay), sign_at(self.up, beat - self.up_at - up_delay))

    def moments(self):
        """For each beat the pairs of a standing and a walk of the groups."""
        drills = [self.column.make[name] for name in self.column]
        rows = [[(0, 0)] * len(drills)]
        for beat in range(1, self.beats + 1):
            row = []
            for at, drill in enumerate(drills):
                standing, walk = rows[-1][at]
                onto = led_by_two(drill, standing, self.signs_at(at, beat))
                row.append((onto, walk + drill.standings[onto][0]))
            rows.append(row)
        return rows

    def standings_at(self, beat):
        """The standings of the groups at a beat."""
        self._film.check_beat(beat)
        return self._film.standings[beat]

    def fronts_at(self, beat):
        """The places of the fronts at a beat."""
        self._film.check_beat(beat)
        return self._film.fronts[beat]

    def gaps_at(self, beat):
        """The gaps between neighbours at a beat."""
        self._film.check_beat(beat)
        return self._film.gaps_of(beat)

    def length_at(self, beat):
        """The length of the column at a beat."""
        self._film.check_beat(beat)
        return self._film.length_of(beat)

    def first_breach(self, wish):
        """The beat and the group behind which a gap does not keep a wish first, None if all keep it."""
        return self._film.first_breach(wish)

    def heard(self, number, beat):
        """The pair of the signs that a group hears at a beat."""
        if not in_bounds(number, 0, len(self._delays) - 1):
            raise BadNumber(number)
        if not in_bounds(beat, 1, self.beats):
            raise BadBeats(beat)
        return self.signs_at(number, beat)
