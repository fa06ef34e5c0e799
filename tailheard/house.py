"""The house: things that are kept by their names, and the deeds by which they came and went."""

from tailheard.checks import is_name
from tailheard.errors import BadName, TooMany, Twice, Unknown

MOST_THINGS = 30


def check_thing_name(name):
    """Raise BadName unless a thing can have this name."""
    if not is_name(name):
        raise BadName(name)


class House:
    """Makes, plans, programs and crossings by their names."""

    def __init__(self):
        self._things = {}
        # A deed is a pair of a name and the thing that was added, None if it was struck.
        self._done = []

    def __len__(self):
        return len(self._things)

    def __iter__(self):
        return iter(self._things)

    def __contains__(self, name):
        return is_name(name) and name in self._things

    def __getitem__(self, name):
        if not is_name(name) or name not in self._things:
            raise Unknown(name)
        return self._things[name]

    def __eq__(self, other):
        return isinstance(other, House) and self._done == other._done

    @property
    def deeds(self):
        """The number of deeds."""
        return len(self._done)

    def keep(self, name, thing):
        """Add a thing."""
        check_thing_name(name)
        if name in self._things:
            raise Twice(name)
        if len(self._things) >= MOST_THINGS:
            raise TooMany("thing")
        self._things[name] = thing
        self._done.append((name, thing))

    def strike(self, name):
        """Strike a thing."""
        check_thing_name(name)
        if name not in self._things:
            raise Unknown(name)
        del self._things[name]
        self._done.append((name, None))

    def copy(self):
        """Another house with the same deeds."""
        other = House()
        for name, thing in self._done:
            if thing is None:
                other.strike(name)
            else:
                other.keep(name, thing)
        return other

    def all_deeds(self):
        """The deeds in order: pairs of a name and the thing that was added, None if it was struck."""
        return tuple(self._done)
