"""Runs: what befalls a column beat by beat when its head hears a calling."""

from tailheard.checks import check_calling, in_bounds, keeps, wish_of
from tailheard.drills import led
from tailheard.errors import BadBeats

MOST_RUN = 1000


def beats_of(column, calling, beats):
    """The number of beats of a run, BadBeats if it is not as told."""
    if beats is None:
        return len(calling) + column.delay_row[-1]
    if not in_bounds(beats, 0, MOST_RUN):
        raise BadBeats(beats)
    return beats


def tracks_of(make, calling, beats):
    """For each name the pairs of a standing and a walk at each beat, where the calling is heard without delay."""
    heard = (calling + "." * beats)[:beats]
    tracks = {}
    for name in make:
        standings = make[name].standings
        track = [(0, 0)]
        for standing in led(make.words, standings, 0, heard):
            track.append((standing, track[-1][1] + standings[standing][0]))
        tracks[name] = track
    return tracks


class Run:
    """A column, a calling that its head hears, and a number of beats."""

    def __init__(self, column, calling, beats=None):
        check_calling(column.make.words, calling)
        many = beats_of(column, calling, beats)
        tracks = tracks_of(column.make, calling, many)
        delays = column.delay_row
        places = column.front_row
        moments = []
        for beat in range(many + 1):
            moments.append([tracks[name][max(0, beat - delays[at])] for at, name in enumerate(column.groups)])
        self.column = column
        self.calling = calling
        self.beats = many
        self._standings = tuple([tuple([point[0] for point in row]) for row in moments])
        self._fronts = tuple([tuple([places[at] + point[1] for at, point in enumerate(row)]) for row in moments])
        self._bodies = {name: [row[1] for row in column.make[name]] for name in column.make}

    def __len__(self):
        return len(self._standings)

    def __iter__(self):
        return iter(self._standings)

    def standings_at(self, beat):
        """The standings of the groups at a beat."""
        self.check_beat(beat)
        return self._standings[beat]

    def fronts_at(self, beat):
        """The places of the fronts at a beat."""
        self.check_beat(beat)
        return self._fronts[beat]

    def gaps_at(self, beat):
        """The gaps between neighbours at a beat."""
        self.check_beat(beat)
        fronts = self._fronts[beat]
        rears = self.rears_at(beat)
        return tuple([rears[at] - fronts[at + 1] for at in range(len(fronts) - 1)])

    def length_at(self, beat):
        """The length of the column at a beat."""
        self.check_beat(beat)
        return self._fronts[beat][0] - self.rears_at(beat)[-1]

    def rears_at(self, beat):
        """The places of the rears at a beat."""
        points = zip(self.column.groups, self._standings[beat], self._fronts[beat])
        return [front - self._bodies[name][standing] for name, standing, front in points]

    def first_breach(self, wish):
        """The beat and the group behind which a gap does not keep a wish first, None if all keep it."""
        bounds = wish_of(wish)
        for beat in range(len(self._standings)):
            for at, gap in enumerate(self.gaps_at(beat)):
                if not keeps(bounds, gap):
                    return (beat, at)
        return None

    def check_beat(self, beat):
        """Raise BadBeats unless this is a beat of the run."""
        if not in_bounds(beat, 0, self.beats):
            raise BadBeats(beat)
