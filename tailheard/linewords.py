"""Lines that are read word by word."""

from tailheard.checks import MOST_NAME, SMALL, are_words, is_name, is_rising, is_text
from tailheard.errors import BadLine


class LineWords:
    """The words of a line, taken one after the other; BadLine at the first one that cannot stand where it stands."""

    def __init__(self, lines, number):
        if not isinstance(lines[number], str):
            raise BadLine(number, 0)
        self.number = number
        self.words = lines[number].split(" ")
        self.taken = 0

    def is_over(self):
        """Whether all words have been taken."""
        return self.taken == len(self.words)

    def begins_with(self, word):
        """Whether this is the first word of the line."""
        return self.words[0] == word

    def take(self, allowed):
        """The next word, which must be one of those allowed."""
        if self.is_over() or self.words[self.taken] not in allowed:
            raise BadLine(self.number, self.taken)
        self.taken += 1
        return self.words[self.taken - 1]

    def take_integer(self, least, most):
        """The integer that the next word writes, from the least to the most."""
        # Only the plain way to write an integer is allowed, so the word is one of those that Python writes itself.
        return int(self.take([str(number) for number in range(least, most + 1)]))

    def take_text(self, letters, least, most):
        """The next word, which must be a string of some letters with at least and at most so many characters."""
        if self.is_over() or not is_text(self.words[self.taken], letters, least, most):
            raise BadLine(self.number, self.taken)
        self.taken += 1
        return self.words[self.taken - 1]

    def take_name(self):
        """The next word, which must be a name."""
        return self.take_text(SMALL, 1, MOST_NAME)

    def take_words(self):
        """The next word, which must be the words of a house."""
        if self.is_over() or not are_words(self.words[self.taken]):
            raise BadLine(self.number, self.taken)
        self.taken += 1
        return self.words[self.taken - 1]

    def take_numbers(self, most):
        """What the next word writes: ascending integers from 0 to the most, with a comma between any two."""
        plain = [str(number) for number in range(most + 1)]
        parts = [] if self.is_over() else self.words[self.taken].split(",")
        if not parts or not all([part in plain for part in parts]) or not is_rising([int(part) for part in parts]):
            raise BadLine(self.number, self.taken)
        self.taken += 1
        return [int(part) for part in parts]

    def take_amount(self, most):
        """What the next word writes: an integer from 0 to the most, or a name."""
        if not self.is_over() and is_name(self.words[self.taken]):
            self.taken += 1
            return self.words[self.taken - 1]
        return self.take_integer(0, most)

    def finish(self):
        """Let the line end here."""
        if not self.is_over():
            raise BadLine(self.number, self.taken)


def read_all(reader, lines):
    """What a reader has made when it has taken up all lines."""
    for number in range(len(lines)):
        reader.read(LineWords(lines, number))
    if reader.is_open():
        raise BadLine(len(lines), 0)
    return reader.made()
