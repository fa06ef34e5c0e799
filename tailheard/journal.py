"""The journal: the deeds of a house written as lines, and read from them."""

from tailheard.crossinglines import CrossingReader, write_crossing
from tailheard.crossings import MOST_PLACES
from tailheard.errors import BadLine, TailError, Torn
from tailheard.house import House
from tailheard.linewords import LineWords
from tailheard.makelines import MakeReader, write_make
from tailheard.makes import MOST_SPACE, Make
from tailheard.planlines import PlanReader, write_plan
from tailheard.plans import Plan
from tailheard.programs import Program
from tailheard.rows import MOST_STATES
from tailheard.scriptlines import ScriptReader, write_script

END = "end"
FIRST_WORDS = ("make", "plan", "program", "crossing", "strike")


def lines_of_thing(name, thing):
    """The lines of the deed by which a thing was added."""
    if isinstance(thing, Make):
        return [f"make {name} {thing.words} {thing.space}", *write_make(thing), END]
    if isinstance(thing, Plan):
        ends = ",".join([str(end) for end in thing.ends])
        return [f"plan {name} {ends}", *write_plan(thing), END]
    if isinstance(thing, Program):
        return [f"program {name} {thing.words}", *write_script(thing), END]
    return [f"crossing {name} {thing.places}", *write_crossing(thing), END]


def write_journal(house):
    """The lines of all deeds of a house."""
    lines = []
    for name, thing in house.all_deeds():
        lines.extend([f"strike {name}"] if thing is None else lines_of_thing(name, thing))
    return tuple(lines)


def reader_of(word, line):
    """What reads the lines of a thing, where a line tells its kind and its name."""
    if word == "make":
        words = line.take_words()
        return MakeReader(words, line.take_integer(0, MOST_SPACE))
    if word == "plan":
        return PlanReader(line.take_numbers(MOST_STATES - 1))
    if word == "program":
        return ScriptReader(line.take_words())
    return CrossingReader(line.take_integer(1, MOST_PLACES))


def read_thing(reader, lines, at):
    """Let a reader take up the lines from one on up to the end of its thing; the number of the line behind it."""
    number = at
    while number < len(lines):
        line = LineWords(lines, number)
        number = number + 1
        if line.begins_with(END) and not reader.is_open():
            line.take([END])
            line.finish()
            return number
        reader.read(line)
    raise BadLine(number, 0)


def do_deed(house, lines, at):
    """Let a house do the deed that begins at a line; the number of the line behind it."""
    line = LineWords(lines, at)
    word = line.take(FIRST_WORDS)
    name = line.take_name()
    if word == "strike":
        line.finish()
        house.strike(name)
        return at + 1
    reader = reader_of(word, line)
    line.finish()
    behind = read_thing(reader, lines, at + 1)
    house.keep(name, reader.made())
    return behind


def read_journal(lines):
    """The house that lines tell."""
    house = House()
    at = 0
    while at < len(lines):
        try:
            at = do_deed(house, lines, at)
        except TailError as error:
            raise Torn(at) from error
    return house


def taken_up(lines):
    """The house that the longest good beginning of whole deeds tells, and the number of its lines."""
    house = House()
    at = 0
    while at < len(lines):
        try:
            at = do_deed(house, lines, at)
        except TailError:
            return (house, at)
    return (house, at)
