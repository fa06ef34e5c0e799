"""What many modules ask of the things that they are passed."""

from tailheard.errors import BadCalling, BadLeast, BadWish, BadWords

SMALL = "abcdefghijklmnopqrstuvwxyz"
CAPITALS = "ABCDEFGHIJKLMNOPQRSTUVWXYZ"
SIGNS = ".ABCDEFGHIJKLMNOPQRSTUVWXYZabcdefghijklmnopqrstuvwxyz"
MOST_PACES = 60
MOST_BEATS = 400
MOST_NAME = 8


def is_integer(thing):
    """Whether a thing is an integer; True and False are none."""
    return isinstance(thing, int) and not isinstance(thing, bool)


def in_bounds(thing, least, most):
    """Whether a thing is an integer from the least to the most."""
    return is_integer(thing) and least <= thing <= most


def is_tuple(thing, least, most):
    """Whether a thing is a tuple of at least and at most so many things."""
    return isinstance(thing, tuple) and least <= len(thing) <= most


def is_letter(thing, letters):
    """Whether a thing is one character of some letters."""
    return isinstance(thing, str) and len(thing) == 1 and thing in letters


def is_rising(row):
    """Whether each thing of a row is greater than the one before."""
    return all([row[at] < row[at + 1] for at in range(len(row) - 1)])


def frozen(thing):
    """A thing with tuples in the place of its lists, at any depth."""
    if isinstance(thing, (list, tuple)):
        return tuple([frozen(part) for part in thing])
    return thing


def is_key(thing):
    """Whether a thing is an integer, a string, or a tuple of such things alone."""
    if isinstance(thing, tuple):
        return all([is_key(part) for part in thing])
    return isinstance(thing, str) or is_integer(thing)


def key_of(thing):
    """A thing as it can be looked up, None if nothing like it can be there."""
    row = frozen(thing)
    if is_key(row):
        return row
    return None


def misplaced(text, letters, least, most):
    """The index of the first character that is none of some letters, None if there is none.

    It is -1 if the thing is no string of at least and at most so many characters.
    """
    if not isinstance(text, str) or not least <= len(text) <= most:
        return -1
    for at, letter in enumerate(text):
        if letter not in letters:
            return at
    return None


def is_text(thing, letters, least, most):
    """Whether a thing is a string of some letters with at least and at most so many characters."""
    return misplaced(thing, letters, least, most) is None


def is_name(thing):
    """Whether a thing is a name: a string of 1 to 8 small letters."""
    return is_text(thing, SMALL, 1, MOST_NAME)


def are_words(thing):
    """Whether a thing is an ascending string of 1 to 4 small letters."""
    return is_text(thing, SMALL, 1, 4) and is_rising(thing)


def check_words(words):
    """Raise BadWords unless these are the words of a house."""
    if not are_words(words):
        raise BadWords(words)


def check_calling(words, calling):
    """Raise BadCalling unless this is a calling of some words."""
    wrong = misplaced(calling, "." + words, 0, MOST_BEATS)
    if wrong is not None:
        raise BadCalling(wrong)


def is_wish(thing):
    """Whether a thing is a pair of integers that is a wish."""
    if not is_tuple(thing, 2, 2) or not in_bounds(thing[0], 0, MOST_PACES):
        return False
    return in_bounds(thing[1], thing[0], MOST_PACES)


def wish_of(thing):
    """The wish that was passed as a tuple; BadWish if it is none."""
    wish = frozen(thing)
    if not is_wish(wish):
        raise BadWish(thing)
    return wish


def keeps(wish, gap):
    """Whether a gap keeps a wish."""
    return wish[0] <= gap <= wish[1]


def check_least(least):
    """Raise BadLeast unless this is a gap below which no gap may fall."""
    if not in_bounds(least, 0, MOST_PACES):
        raise BadLeast(least)
