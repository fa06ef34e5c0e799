"""Drills that are told back from callings and what was seen."""

from tailheard.checks import MOST_BEATS, SMALL, are_words, frozen
from tailheard.checks import in_bounds, is_letter, is_text, is_tuple, misplaced
from tailheard.errors import BadCalling, BadSample, BadTable, BadWords, TooLong

MOST_WORDS = 2
MOST_SAMPLES = 6
MOST_SIGNS = 24
MOST_STANDINGS = 3


def check_few_words(words):
    """Raise BadWords unless these are one or two words."""
    if not are_words(words) or len(words) > MOST_WORDS:
        raise BadWords(words)


def is_pair(words, row, many):
    """Whether a row has the form of a look and the standings to which signs lead, where there are so many."""
    if not is_tuple(row, 2, 2) or not is_letter(row[0], SMALL) or not is_tuple(row[1], len(words) + 1, len(words) + 1):
        return False
    return all([in_bounds(onto, 0, many - 1) for onto in row[1]])


def check_sketch(words, rows):
    """Raise BadTable unless this is a sketch over some words."""
    if not is_tuple(rows, 1, MOST_STANDINGS):
        raise BadTable(-1)
    for at, row in enumerate(rows):
        if not is_pair(words, row, len(rows)) or at == 0 and row[1][0] != 0:
            raise BadTable(at)


def is_sample(words, row):
    """Whether a row has the form of a calling and the looks that were seen."""
    if not is_tuple(row, 2, 2) or not is_text(row[0], "." + words, 0, MOST_BEATS):
        return False
    return is_text(row[1], SMALL, len(row[0]), len(row[0]))


def check_samples(words, rows):
    """Raise BadSample or TooLong unless these are samples."""
    if not is_tuple(rows, 1, MOST_SAMPLES):
        raise BadSample(-1)
    for at, row in enumerate(rows):
        if not is_sample(words, row):
            raise BadSample(at)
    many = sum([len(calling) for calling, sights in rows])
    if many > MOST_SIGNS:
        raise TooLong(many)


def led_along(words, nexts, calling):
    """The standings to which a calling leads from rest, where `nexts` tell where signs lead."""
    signs = "." + words
    standing = 0
    found = []
    for sign in calling:
        standing = nexts[standing][signs.index(sign)]
        found.append(standing)
    return found


def shown_looks(words, nexts, samples):
    """The look of each standing, None for one that is never seen; None if the samples do not fit."""
    looks = [None] * len(nexts)
    for calling, sights in samples:
        for standing, look in zip(led_along(words, nexts, calling), sights):
            if looks[standing] not in (None, look):
                return None
            looks[standing] = look
    return tuple(looks)


def fits(words, sketch, samples):
    """Whether a sketch fits the samples."""
    check_few_words(words)
    rows = frozen(sketch)
    check_sketch(words, rows)
    ready = frozen(samples)
    check_samples(words, ready)
    nexts = [row[1] for row in rows]
    for calling, sights in ready:
        if "".join([rows[standing][0] for standing in led_along(words, nexts, calling)]) != sights:
            return False
    return True


def tables_of(many, signs):
    """All ways in which so many signs can lead so many standings on, silence leading the standing 0 to itself."""
    rows = [()]
    for _ in range(signs):
        rows = [(*row, onto) for row in rows for onto in range(many)]
    tables = [(row,) for row in rows if row[0] == 0]
    for _ in range(many - 1):
        tables = [(*table, row) for table in tables for row in rows]
    return tables


def all_fitting(words, samples, many):
    """For each way in which sketches with so many standings fit the samples, where signs lead, and the looks."""
    found = []
    for nexts in tables_of(many, len(words) + 1):
        looks = shown_looks(words, nexts, samples)
        if looks is not None:
            found.append((nexts, looks))
    return found


class ToldDrill:
    """The sketches with the fewest standings that fit some samples."""

    def __init__(self, words, samples):
        check_few_words(words)
        rows = frozen(samples)
        check_samples(words, rows)
        many = 1
        fitting = all_fitting(words, rows, many)
        while not fitting and many < MOST_STANDINGS:
            many = many + 1
            fitting = all_fitting(words, rows, many)
        self.fewest = many if fitting else None
        self.sketch = None
        if fitting:
            nexts, looks = fitting[0]
            self.sketch = tuple([(look or "a", row) for look, row in zip(looks, nexts)])
        self._words = words
        self._fitting = fitting

    def sure_looks(self, calling):
        """For each sign of a further calling the look that all sketches show then, None if they do not agree."""
        wrong = misplaced(calling, "." + self._words, 0, MOST_SIGNS)
        if wrong is not None:
            raise BadCalling(wrong)
        shown = [{} for sign in calling]
        for nexts, looks in self._fitting:
            for at, standing in enumerate(led_along(self._words, nexts, calling)):
                shown[at][looks[standing]] = True
        # A standing that is never seen can have any look, so None stands for it among what is shown.
        return tuple([list(each)[0] if len(each) == 1 else None for each in shown])
