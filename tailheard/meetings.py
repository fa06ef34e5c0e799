"""Meetings: where in a column a word that comes down and one that comes up meet."""

from tailheard.checks import in_bounds
from tailheard.errors import BadBeats

LAST_MOMENT = 500


def check_moment(beat):
    """Raise BadBeats unless this is a beat at which a word can be heard first."""
    if not in_bounds(beat, 1, LAST_MOMENT):
        raise BadBeats(beat)


def up_delays(column):
    """The up delays of the groups of a column."""
    delays = column.delay_row
    return tuple([delays[-1] - delay for delay in delays])


def meeting(column, down_at, up_at):
    """How many groups hear the down word first, how many both at one beat, and how many the up word first."""
    check_moment(down_at)
    check_moment(up_at)
    moments = list(zip(column.delay_row, up_delays(column)))
    firsts = len([0 for delay, up_delay in moments if down_at + delay < up_at + up_delay])
    both = len([0 for delay, up_delay in moments if down_at + delay == up_at + up_delay])
    return (firsts, both, len(moments) - firsts - both)
