"""The errors of the program, each with what it tells in attributes."""


class TailError(ValueError):
    """What all errors of the program are."""


class BadWords(TailError):
    """The words are no ascending string of as many letters as the point allows."""
    def __init__(self, words):
        self.words = words


class BadStanding(TailError):
    """A standing of a drill does not have the form told."""
    def __init__(self, number):
        self.number = number


class BadKind(TailError):
    """A kind of a make does not have the form told."""
    def __init__(self, number):
        self.number = number


class BadSpace(TailError):
    """The space of a make is no integer from 0 to 20."""
    def __init__(self, space):
        self.space = space


class BadSeat(TailError):
    """A seat of a make does not have the form told."""
    def __init__(self, number):
        self.number = number


class BadColumn(TailError):
    """A character of a column is no name of a kind."""
    def __init__(self, number):
        self.number = number


class BadCalling(TailError):
    """A character of a calling is no sign."""
    def __init__(self, number):
        self.number = number


class BadBeats(TailError):
    """The beats are not as told."""
    def __init__(self, beats):
        self.beats = beats


class BadWish(TailError):
    """A wish is no pair of integers as told."""
    def __init__(self, wish):
        self.wish = wish


class BadPlan(TailError):
    """A state of a plan does not have the form told, or leads to no end."""
    def __init__(self, number):
        self.number = number


class BadSign(TailError):
    """A plan has a sign that it cannot have here."""
    def __init__(self, sign):
        self.sign = sign


class BadText(TailError):
    """A character of a plan text cannot stand where it stands."""
    def __init__(self, at):
        self.at = at


class BadLine(TailError):
    """A word of a line cannot stand where it stands."""
    def __init__(self, line, word):
        self.line = line
        self.word = word


class BadLeast(TailError):
    """The least gap is no integer from 0 to 60."""
    def __init__(self, least):
        self.least = least


class BadWait(TailError):
    """The wait is not as told."""
    def __init__(self, wait):
        self.wait = wait


class BadGoal(TailError):
    """A standing of a goal is not as told."""
    def __init__(self, number):
        self.number = number


class BadFile(TailError):
    """A string of a file is not as told."""
    def __init__(self, word):
        self.word = word


class BadNumber(TailError):
    """A number is not as told."""
    def __init__(self, number):
        self.number = number


class BadStatement(TailError):
    """A statement of a script does not have the form told."""
    def __init__(self, number):
        self.number = number


class BadValue(TailError):
    """A variable has no value as told."""
    def __init__(self, name):
        self.name = name


class BadDelay(TailError):
    """The delay is no integer from 0 to 177."""
    def __init__(self, delay):
        self.delay = delay


class BadPlaces(TailError):
    """The places of a crossing are not as told."""
    def __init__(self, places):
        self.places = places


class BadWay(TailError):
    """A way of a crossing does not have the form told."""
    def __init__(self, number):
        self.number = number


class BadRule(TailError):
    """A rule of a crossing does not have the form told."""
    def __init__(self, number):
        self.number = number


class BadNames(TailError):
    """The names of an obstacle are not as told."""
    def __init__(self, names):
        self.names = names


class BadTable(TailError):
    """A row of a table does not have the form told."""
    def __init__(self, number):
        self.number = number


class BadDelays(TailError):
    """The delays of an obstacle are not as told."""
    def __init__(self, delays):
        self.delays = delays


class BadFirst(TailError):
    """The first branch of an obstacle is not as told."""
    def __init__(self, first):
        self.first = first


class BadStream(TailError):
    """A character of a stream is not as told."""
    def __init__(self, number):
        self.number = number


class BadChain(TailError):
    """A part of a chain is no obstacle of the right names."""
    def __init__(self, number):
        self.number = number


class BadMost(TailError):
    """The most is not as told."""
    def __init__(self, most):
        self.most = most


class BadBands(TailError):
    """The bands of a tune are not as told."""
    def __init__(self, bands):
        self.bands = bands


class BadSlow(TailError):
    """The slowness of a tune is not as told."""
    def __init__(self, slow):
        self.slow = slow


class BadCycle(TailError):
    """The cycle of a tune is not as told."""
    def __init__(self, cycle):
        self.cycle = cycle


class BadEar(TailError):
    """The earshot of a tune is not as told."""
    def __init__(self, ear):
        self.ear = ear


class BadRelay(TailError):
    """The relay of a tune is neither True nor False."""
    def __init__(self, relay):
        self.relay = relay


class BadWithin(TailError):
    """The ticks within which feet must be are not as told."""
    def __init__(self, within):
        self.within = within


class BadLooks(TailError):
    """The looks of a kind are not as told."""
    def __init__(self, number):
        self.number = number


class BadSeen(TailError):
    """The seen group is neither ahead nor behind."""
    def __init__(self, word):
        self.word = word


class BadSight(TailError):
    """A character of what was seen is no look."""
    def __init__(self, number):
        self.number = number


class BadSample(TailError):
    """A sample does not have the form told."""
    def __init__(self, number):
        self.number = number


class BadName(TailError):
    """A name of a thing is not as told."""
    def __init__(self, name):
        self.name = name


class TooMany(TailError):
    """More things of a kind are found than the point lets."""
    def __init__(self, word):
        self.word = word


class TooLong(TailError):
    """Something is longer than the point lets."""
    def __init__(self, number):
        self.number = number


class Twice(TailError):
    """A name is given twice."""
    def __init__(self, name):
        self.name = name


class Unknown(TailError):
    """There is nothing of this name."""
    def __init__(self, name):
        self.name = name


class Unlike(TailError):
    """Two things that must agree do not."""
    def __init__(self, word):
        self.word = word


class Empty(TailError):
    """Nothing is left that could be borne."""


class NoStanding(TailError):
    """There is no such standing or state."""
    def __init__(self, standing):
        self.standing = standing


class NoBetween(TailError):
    """There is no such between."""
    def __init__(self, between):
        self.between = between


class NoLength(TailError):
    """There is no column of this length."""
    def __init__(self, length):
        self.length = length


class NoNode(TailError):
    """There is no such node."""
    def __init__(self, node):
        self.node = node


class NoSeat(TailError):
    """Two neighbours cannot be seated."""
    def __init__(self, ahead, behind):
        self.ahead = ahead
        self.behind = behind


class NotSteady(TailError):
    """A drill is not steady."""
    def __init__(self, name):
        self.name = name


class HasAnswer(TailError):
    """A program has an answer."""
    def __init__(self, number):
        self.number = number


class HasVariable(TailError):
    """A program has a variable."""
    def __init__(self, name):
        self.name = name


class Nested(TailError):
    """A repeat has another variable in its body."""
    def __init__(self, name):
        self.name = name


class Torn(TailError):
    """A journal ends too early or goes wrong."""
    def __init__(self, line):
        self.line = line
