"""Films: where all groups of a column are, beat by beat."""

from tailheard.checks import in_bounds, keeps, wish_of
from tailheard.drills import led
from tailheard.errors import BadBeats


def tracks_of(make, calling, beats):
    """For each name the pairs of a standing and a walk at each beat, where the calling is heard without delay."""
    heard = (calling + "." * beats)[:beats]
    tracks = {}
    for name in make:
        standings = make[name].standings
        track = [(0, 0)]
        for standing in led(make.words, standings, 0, heard):
            track.append((standing, track[-1][1] + standings[standing][0]))
        tracks[name] = track
    return tracks


def film_of(column, calling, beats):
    """The film of a column whose head hears a calling from the first beat on."""
    tracks = tracks_of(column.make, calling, beats)
    delays = column.delay_row
    moments = []
    for beat in range(beats + 1):
        moments.append([tracks[name][max(0, beat - delays[at])] for at, name in enumerate(column.groups)])
    return Film(column, moments)


def still_of(column, called):
    """The film of the one moment at which the head of a column has heard all of some signs."""
    beat = len(called)
    tracks = tracks_of(column.make, called, beat)
    delays = column.delay_row
    return Film(column, [[tracks[name][max(0, beat - delays[at])] for at, name in enumerate(column.groups)]])


class Film:
    """The standings and the places of the fronts of a column from the beat 0 on.

    `moments` tell for each beat the pairs (standing, walk) of the groups.
    """

    def __init__(self, column, moments):
        places = column.front_row
        self.standings = tuple([tuple([point[0] for point in row]) for row in moments])
        self.fronts = tuple([tuple([places[at] + point[1] for at, point in enumerate(row)]) for row in moments])
        self._groups = column.groups
        self._bodies = {name: [row[1] for row in column.make[name]] for name in column.make}

    def rears(self, beat):
        """The places of the rears at a beat."""
        points = zip(self._groups, self.standings[beat], self.fronts[beat])
        return [front - self._bodies[name][standing] for name, standing, front in points]

    def gaps_of(self, beat):
        """The gaps between neighbours at a beat."""
        fronts = self.fronts[beat]
        rears = self.rears(beat)
        return tuple([rears[at] - fronts[at + 1] for at in range(len(fronts) - 1)])

    def length_of(self, beat):
        """The length of the column at a beat."""
        return self.fronts[beat][0] - self.rears(beat)[-1]

    def first_breach(self, wish):
        """The beat and the group behind which a gap does not keep a wish first, None if all keep it."""
        bounds = wish_of(wish)
        for beat in range(len(self.standings)):
            for at, gap in enumerate(self.gaps_of(beat)):
                if not keeps(bounds, gap):
                    return (beat, at)
        return None

    def check_beat(self, beat):
        """Raise BadBeats unless this is a beat of the film."""
        if not in_bounds(beat, 0, len(self.standings) - 1):
            raise BadBeats(beat)
