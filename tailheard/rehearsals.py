"""Rehearsals: words tried out on a column beat by beat, and trials behind which all is as it was."""

from tailheard.checks import check_calling, in_bounds
from tailheard.errors import BadBeats
from tailheard.films import still_of

MOST_PAUSE = 200


class Rehearsal:
    """A column, and what its head has heard so far."""

    def __init__(self, column):
        self.column = column
        self.called = ""

    def __eq__(self, other):
        return isinstance(other, Rehearsal) and self.column == other.column and self.called == other.called

    @property
    def moment(self):
        """The beat that has come."""
        return len(self.called)

    def standings_now(self):
        """The standings of the groups."""
        return still_of(self.column, self.called).standings[0]

    def fronts_now(self):
        """The places of the fronts."""
        return still_of(self.column, self.called).fronts[0]

    def gaps_now(self):
        """The gaps between neighbours."""
        return still_of(self.column, self.called).gaps_of(0)

    def call(self, calling):
        """Let the head hear a calling; the gaps behind it."""
        check_calling(self.column.make.words, calling)
        self.called = self.called + calling
        return self.gaps_now()

    def pause(self, beats):
        """Let the head hear so many silences; the gaps behind them."""
        if not in_bounds(beats, 0, MOST_PAUSE):
            raise BadBeats(beats)
        self.called = self.called + "." * beats
        return self.gaps_now()

    def settle(self):
        """Let the head hear silences until the last group has heard all that was called; the gaps behind them."""
        self.called = self.called + "." * self.column.delay_row[-1]
        return self.gaps_now()

    def copy(self):
        """Another rehearsal of the same column that has come as far."""
        other = Rehearsal(self.column)
        other.called = self.called
        return other


class Mark:
    """What was called when a trial was entered, and the mark of the same trial before, None if there is none."""

    def __init__(self, called, earlier):
        self.called = called
        self.earlier = earlier


class Trial:
    """A block behind which a rehearsal is what it was when the block was entered."""

    def __init__(self, rehearsal):
        self._rehearsal = rehearsal
        self._mark = None

    def __enter__(self):
        self._mark = Mark(self._rehearsal.called, self._mark)
        return self._rehearsal

    def __exit__(self, kind, value, trace):
        held = self._rehearsal
        held.called = self._mark.called
        self._mark = self._mark.earlier


def done(rehearsal, deed):
    """What is told for a deed when it has been done."""
    if deed[0] == "call":
        return rehearsal.call(deed[1])
    if deed[0] == "pause":
        return rehearsal.pause(deed[1])
    if deed[0] == "settle":
        return rehearsal.settle()
    return rehearsed(rehearsal, deed[1])


def rehearsed(rehearsal, deeds):
    """What is told for some deeds, done one after the other; the rehearsal is as it was."""
    with Trial(rehearsal) as held:
        return tuple([done(held, deed) for deed in deeds])
