"""Clashes: what becomes of a group that hears words from both ends of its column."""

from tailheard.checks import is_letter, misplaced
from tailheard.drills import led
from tailheard.errors import BadCalling, BadWords, NotSteady

MOST_SHUFFLED = 8
MOST_BORDERED = 60


def check_string(drill, text, most):
    """Raise BadCalling unless this is a string of at most so many words of a drill."""
    wrong = misplaced(text, drill.words, 0, most)
    if wrong is not None:
        raise BadCalling(wrong)


def clashes(drill):
    """The triples (standing, word, other) of words that lead elsewhere in the other order, ascending."""
    found = []
    for standing in range(len(drill)):
        for word in drill.words:
            for other in drill.words:
                if word < other and drill(standing, word + other) != drill(standing, other + word):
                    found.append((standing, word, other))
    return tuple(found)


def shuffles(first, second):
    """The strings with all letters of two strings, those of each in their order, ascending, each once."""
    # A beginning can have taken its letters in several ways: it is told once, with how many of the first string.
    stack = [("", (0,))]
    while stack:
        text, counts = stack.pop()
        if len(text) == len(first) + len(second):
            yield text
        else:
            stack.extend(onward(first, second, text, counts)[::-1])


def onward(first, second, text, counts):
    """The beginnings with one letter more behind a beginning, each with how many are of the first string."""
    found = {}
    for count in counts:
        rest = len(text) - count
        if count < len(first):
            found.setdefault(first[count], {})[count + 1] = True
        if rest < len(second):
            found.setdefault(second[rest], {})[count] = True
    return [(text + letter, tuple(sorted(found[letter]))) for letter in sorted(found)]


def shuffle_ends(drill, standing, first, second):
    """The standings to which the shuffles of two strings of words lead, ascending."""
    drill.check_standing(standing)
    check_string(drill, first, MOST_SHUFFLED)
    check_string(drill, second, MOST_SHUFFLED)
    ends = {(0, 0): (standing,)}
    for one in range(len(first) + 1):
        for two in range(len(second) + 1):
            found = [drill(before, first[one - 1]) for before in ends.get((one - 1, two), ())]
            more = [drill(before, second[two - 1]) for before in ends.get((one, two - 1), ())]
            if one + two > 0:
                ends[(one, two)] = tuple(sorted(set(found + more)))
    return ends[(len(first), len(second))]


def border_row(drill, standing, words, word):
    """The standings of the groups that hear a word behind, or farther and farther ahead in, a string of words."""
    drill.check_standing(standing)
    if not drill.is_steady:
        raise NotSteady(".")
    check_string(drill, words, MOST_BORDERED)
    if not is_letter(word, drill.words):
        raise BadWords(word)
    found = []
    for at in range(len(words), -1, -1):
        onto = led(drill.words, drill.standings, standing, words[:at] + word + words[at:])[-1]
        if not found or found[-1] != onto:
            found.append(onto)
    return tuple(found)
