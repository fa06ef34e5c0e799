"""Scores: what the script of a program makes of the states of a net, for any values of its variables.

A net tells by its `unit` what no sign at all makes of its states, by `of_sign(sign)` what a sign makes of them, and
by `joined(one, two)` what is made of them by one thing and then another one.
"""

# Answers are waits for a number of silences that is told under this name; no variable can have it.
ANSWER = "."


class Part:
    """A statement: what is passed through, a sign or parts one behind the other, and how often.

    Attributes: sign (None if there are parts), parts, amount (an integer or a name), and the names of all variables
    in it, its own first.
    """

    def __init__(self, row):
        self.sign = None
        self.parts = []
        self.amount = 1
        if row[0] == "say":
            self.sign = row[1]
        elif row[0] == "answer":
            self.sign = "."
            self.amount = ANSWER
        elif row[0] == "wait":
            self.sign = "."
            self.amount = row[1]
        else:
            self.parts = parts_of(row[2])
            self.amount = row[1]
        own = [self.amount] if isinstance(self.amount, str) else []
        self.names = own + names_of(self.parts)


def parts_of(body):
    """The parts of a body."""
    return [Part(row) for row in body]


def names_of(parts):
    """The names of all variables in some parts, in order."""
    return [name for part in parts for name in part.names]


def heads_of(parts):
    """All parts with a variable of their own, each behind those in its body."""
    found = []
    for part in parts:
        found = found + heads_of(part.parts)
        if isinstance(part.amount, str):
            found.append(part)
    return found


class Score:
    """The script of a program over a net."""

    def __init__(self, net, script):
        self.net = net
        self.parts = parts_of(script)
        self._same = {}
        self._silences = {}

    def whole(self, values):
        """What the script makes of all states for some values."""
        return self.of_parts(self.parts, values)

    def of_parts(self, parts, values):
        """What parts make one behind the other."""
        made = self.net.unit
        for part in parts:
            made = self.net.joined(made, self.of_part(part, values))
        return made

    def of_part(self, part, values):
        """What a part makes, passed as often as it tells."""
        if part in self._same:
            return self._same[part]
        many = values[part.amount] if isinstance(part.amount, str) else part.amount
        if part.sign == ".":
            made = self.of_silences(many)
        else:
            made = self.power(self.of_pass(part, values) if many > 0 else self.net.unit, many)
        if not part.names:
            self._same[part] = made
        return made

    def of_pass(self, part, values):
        """What a part makes, passed once."""
        if part.sign is None:
            return self.of_parts(part.parts, values)
        return self.net.of_sign(part.sign)

    def of_silences(self, many):
        """What so many silences make."""
        if many not in self._silences:
            self._silences[many] = self.power(self.net.of_sign("."), many)
        return self._silences[many]

    def power(self, made, many):
        """What is made by one and the same so many times."""
        whole = self.net.unit
        left = many
        double = made
        while left > 0:
            if left % 2 == 1:
                whole = self.net.joined(whole, double)
            left = left // 2
            if left > 0:
                double = self.net.joined(double, double)
        return whole
