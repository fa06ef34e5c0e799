"""[52] the journal: deeds written as lines, read back, torn, taken up."""

import unittest

from helpers import FREE, STRETCH, raised, random_crossing, random_make, random_plan, seeded, two_kinds
from tailheard.crossings import Crossing
from tailheard.errors import BadKind, BadLine, BadPlan, BadStatement, BadWay, TooLong, TooMany, Torn, Twice, Unknown
from tailheard.house import House
from tailheard.journal import read_journal, taken_up, write_journal
from tailheard.makes import Make
from tailheard.plans import Plan
from tailheard.programs import Program

MAKE = Make("ab", [("B", 2, STRETCH)], 5, [("B", "B", 7)])
PLAN = Plan([[(".", 0), ("a", 1)], [("B", 1)]], [0, 1])
PROGRAM = Program("ab", [("say", "a"), ("repeat", 3, [("wait", "x"), ("repeat", "many", ())]), ("answer",)])
CROSSING = Crossing(3, [(0, 1), (2, 1)], [(1, 0, "?#.", (1, 1), 3), (0, 2, "...", None, 0)])
LINES = (
    "make drum ab 5", "kind B 2", "standing 0 1 0 1 1", "standing 0 3 0 0 0", "seat B B 7", "end",
    "plan route 0,1", "state . 0 a 1", "state B 1", "end",
    "program calls ab", "say a", "repeat 3", "wait x", "repeat many", "end", "end", "answer", "end",
    "crossing square 3", "way 0 1", "way 2 1", "rule 1 0 ?#. 1,1 3", "rule 0 2 ... - 0", "end",
    "strike route",
    "plan drums 0", "state", "end",
)
# The numbers of the lines at which deeds begin.
BEGINNINGS = (0, 6, 10, 19, 25, 26)


def furnished():
    house = House()
    house.keep("drum", MAKE)
    house.keep("route", PLAN)
    house.keep("calls", PROGRAM)
    house.keep("square", CROSSING)
    house.strike("route")
    house.keep("drums", Plan([[]]))
    return house


def torn(lines):
    """The line of the error of a journal, and what has caused it."""
    error = raised(Torn, read_journal, lines)
    return error.line, error.__cause__


def bad(lines):
    """Where a line is bad that has torn a journal: the line of the deed, the line, the word."""
    line, cause = torn(lines)
    assert cause.__class__ is BadLine, cause
    return line, cause.line, cause.word


class WriteTest(unittest.TestCase):
    def test_lines(self):
        self.assertEqual(write_journal(furnished()), LINES)
        self.assertEqual(write_journal(House()), ())

    def test_written_and_read_back(self):
        self.assertEqual(read_journal(LINES), furnished())
        self.assertEqual(read_journal(list(LINES)), furnished())
        self.assertEqual(read_journal(()), House())
        rng = seeded(561)
        for _ in range(20):
            house = House()
            for number in range(rng.randint(1, 6)):
                name = "abcdef"[number]
                house.keep(name, rng.choice([
                    random_make(rng, kinds=rng.randint(1, 4), words=rng.choice(["a", "bz"]), stride=3),
                    random_plan(rng, ".abXY"), random_crossing(rng),
                    Program("ab", [("repeat", rng.randint(0, 99), [("say", "b"), ("wait", rng.randint(0, 99))])])]))
                if rng.random() < 0.4:
                    house.strike(rng.choice(list(house)))
            lines = write_journal(house)
            back = read_journal(lines)
            self.assertEqual((back, write_journal(back)), (house, lines))
            self.assertEqual(taken_up(lines), (house, len(lines)))

    def test_long_journals(self):
        lines = []
        for number in range(60):
            lines += [f"plan {'ab' if number % 2 else 'ba'} 0", "state", "end", f"strike {'ab' if number % 2 else 'ba'}"]
        lines += ["plan long 0"] + ["state . 0"] * 57 + ["end"]
        self.assertEqual(len(lines), 299)
        house = read_journal(lines)
        self.assertEqual((house.deeds, list(house), len(house["long"])), (121, ["long"], 57))
        self.assertEqual(taken_up(lines), (house, 299))
        self.assertEqual(torn(lines + ["end"])[0], 299)


class CutTest(unittest.TestCase):
    def test_cut_at_any_line(self):
        for cut in range(len(LINES) + 1):
            whole = max([at for at in BEGINNINGS if at <= cut], default=0)
            if cut in BEGINNINGS or cut == len(LINES):
                self.assertEqual(taken_up(LINES[:cut])[1], cut)
                read_journal(LINES[:cut])
                continue
            # The lines end too early: the line is their number, and the word is 0.
            self.assertEqual(bad(LINES[:cut]), (whole, cut, 0))
            house, taken = taken_up(LINES[:cut])
            self.assertEqual((taken, house), (whole, read_journal(LINES[:whole])))

    def test_bad_at_any_word(self):
        for at, line in enumerate(LINES):
            deed = max(beginning for beginning in BEGINNINGS if beginning <= at)
            words = line.split(" ")
            for word in range(len(words)):
                for wrong in ("", "?!", "-1x"):
                    lines = LINES[:at] + (" ".join(words[:word] + [wrong] + words[word + 1:]),) + LINES[at + 1:]
                    self.assertEqual(bad(lines), (deed, at, word), lines[at])
                    self.assertEqual(taken_up(lines), (read_journal(LINES[:deed]), deed))
            for wrong in (line + " ", line + " ?"):
                self.assertEqual(bad(LINES[:at] + (wrong,) + LINES[at + 1:]), (deed, at, len(words)), wrong)
            for wrong in ("", None, 7, True, ["end"], b"end"):
                self.assertEqual(bad(LINES[:at] + (wrong,) + LINES[at + 1:]), (deed, at, 0))

    def test_lines_that_end_too_early(self):
        for line, word in (("make", 1), ("make drum", 2), ("make drum ab", 3), ("plan", 1), ("plan p", 2),
                           ("program", 1), ("program p", 2), ("crossing", 1), ("crossing c", 2), ("strike", 1)):
            self.assertEqual(bad((line,)), (0, 0, word))
            self.assertEqual(bad(LINES + (line,)), (29, 29, word))

    def test_words_in_themselves(self):
        for line, word in (("make abcdefghi ab 5", 1), ("make Drum ab 5", 1), ("make d1 ab 5", 1), ("make d ba 5", 2),
                           ("make d abcde 5", 2), ("make d aa 5", 2), ("make d AB 5", 2), ("make d ab 21", 3),
                           ("make d ab -1", 3), ("make d ab 05", 3), ("make d ab 5 5", 4), ("plan p -", 2),
                           ("plan p 1,0", 2), ("plan p 0,0", 2), ("plan p 60", 2), ("plan p 0,", 2), ("plan p ,0", 2),
                           ("plan p 00", 2), ("plan p 0 1", 3), ("plan p 0,1,", 2), ("plan p 0, 1", 2),
                           ("program p", 2), ("program p ba", 2), ("program p ab 1", 3), ("crossing c 0", 2),
                           ("crossing c 9", 2), ("crossing c 3 3", 3), ("strike a b", 2), ("strike A", 1),
                           ("strike abcdefghi", 1), ("end", 0), ("kind A 1", 0), ("say a", 0), ("house", 0),
                           ("Make d ab 5", 0), ("way 0", 0), ("state", 0), ("answer", 0)):
            self.assertEqual(bad((line, *LINES)), (0, 0, word), line)
        self.assertEqual(read_journal(("crossing c 1", "way 0", "end"))["c"].places, 1)
        self.assertEqual(read_journal(("crossing c 8", "way 7", "end"))["c"].places, 8)
        self.assertEqual(read_journal(("plan p 0,59", *["state . 59"] * 60, "end"))["p"].ends, (0, 59))

    def test_ends(self):
        self.assertEqual(bad(LINES[:5] + ("end x",)), (0, 5, 1))
        self.assertEqual(bad(LINES[:5] + ("end ",)), (0, 5, 1))
        self.assertEqual(bad(LINES[:6] + ("end",)), (6, 6, 0))
        self.assertEqual(bad(LINES[:18] + ("end", "end")), (19, 19, 0))
        self.assertEqual(bad(("program p ab", "repeat 2", "end")), (0, 3, 0))
        self.assertEqual(bad(("program p ab", "repeat 2", "end x")), (0, 2, 1))
        self.assertEqual(bad(("program p ab", "repeat 2", "strike p", "end", "end")), (0, 2, 0))
        self.assertEqual(bad(("make d ab 5", "state", "end")), (0, 1, 0))
        self.assertEqual(bad(("make d ab 5", "strike d")), (0, 1, 0))

    def test_empty_things(self):
        for line, kind, number in (("make d ab 5", BadKind, -1), ("plan p 0", BadPlan, -1), ("crossing c 3", BadWay, -1)):
            line, cause = torn((line, "end"))
            self.assertEqual((line, cause.__class__, cause.number), (0, kind, number))
        self.assertEqual(read_journal(("program p ab", "end"))["p"], Program("ab", ()))


class DeedTest(unittest.TestCase):
    def test_things_that_cannot_be_made(self):
        for lines, kind, number in ((("plan p 0,1", "state . 0", "end"), BadPlan, -1),
                                    (("plan p 0", "state . 0 a 1", "end"), BadPlan, 0),
                                    (("plan p 0", "state . 0 a 1", "state . 1", "end"), BadPlan, 1),
                                    (("program p ab", "say c", "end"), BadStatement, 0),
                                    (("make d ab 5", "kind A 1", "end"), BadKind, 0),
                                    (("crossing c 2", "way 0 1", "way 0 0", "end"), BadWay, 1),
                                    (("program p ab", *["say a"] * 31, "end"), TooLong, 31)):
            for ahead in ((), LINES):
                line, cause = torn((*ahead, *lines, *LINES))
                self.assertEqual((line, cause.__class__, cause.number), (len(ahead), kind, number))
                self.assertEqual(taken_up((*ahead, *lines)), (read_journal(ahead), len(ahead)))

    def test_nested_repeats(self):
        lines = ["program p ab"] + ["repeat 2"] * 20 + ["end"] * 20 + ["end"]
        line, cause = torn(lines)
        self.assertEqual((line, cause.__class__, cause.number), (0, BadStatement, 5))
        self.assertEqual(len(read_journal(["program p ab"] + ["repeat 2"] * 5 + ["end"] * 6)["p"]), 5)

    def test_bad_lines_go_ahead_of_what_cannot_be_made(self):
        self.assertEqual(bad(("plan p 0,1", "state . 0", "stat", "end")), (0, 2, 0))
        self.assertEqual(bad(("program p ab", "say c", "end.")), (0, 2, 0))
        # What cannot be made goes ahead of what cannot be added.
        line, cause = torn(LINES + ("plan drum 0,1", "state . 0", "end"))
        self.assertEqual((line, cause.__class__), (29, BadPlan))

    def test_names_that_are_taken(self):
        line, cause = torn(LINES + ("plan drum 0", "state", "end"))
        self.assertEqual((line, cause.__class__, cause.name), (29, Twice, "drum"))
        self.assertEqual(bad(LINES + ("plan drum 0", "state x", "end")), (29, 30, 2))
        self.assertEqual(taken_up(LINES + ("plan drum 0", "state", "end")), (furnished(), 29))

    def test_names_that_are_not_there(self):
        line, cause = torn(LINES + ("strike route",))
        self.assertEqual((line, cause.__class__, cause.name), (29, Unknown, "route"))
        line, cause = torn(("strike route",) + LINES)
        self.assertEqual((line, cause.__class__), (0, Unknown))
        self.assertEqual(taken_up(("strike route",) + LINES), (House(), 0))

    def test_one_thing_too_many(self):
        lines = []
        for number in range(30):
            lines += [f"plan {'abcdefghij'[number // 10]}{'abcdefghij'[number % 10]} 0", "state", "end"]
        self.assertEqual(len(read_journal(lines)), 30)
        line, cause = torn(lines + ["plan more 0", "state", "end"])
        self.assertEqual((line, cause.__class__, cause.word), (90, TooMany, "thing"))
        line, cause = torn(lines + ["plan aa 0", "state", "end"])
        self.assertEqual((line, cause.__class__, cause.name), (90, Twice, "aa"))
        self.assertEqual(len(read_journal(lines + ["strike aa", "plan more 0", "state", "end"])), 30)

    def test_things_of_all_kinds(self):
        house = House()
        house.keep("two", two_kinds(space=3, seats=[("A", "B", 0)]))
        house.keep("free", FREE)
        house.keep("end", Plan([[]]))
        self.assertEqual(read_journal(write_journal(house)), house)
        self.assertEqual(write_journal(house)[-3:], ("plan end 0", "state", "end"))
        house.strike("end")
        self.assertEqual(write_journal(house)[-1], "strike end")
        self.assertEqual(read_journal(write_journal(house)), house)


if __name__ == "__main__":
    unittest.main()
