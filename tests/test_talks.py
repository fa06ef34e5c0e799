"""[24] two voices, up delays, talks; [25] meetings."""

import unittest

from helpers import WALK, raised, random_make, seeded, two_kinds, walkers
from tailheard.columns import Column
from tailheard.errors import BadBeats, BadCalling, BadNumber, BadWish
from tailheard.makes import Make
from tailheard.meetings import meeting, up_delays
from tailheard.runs import Run
from tailheard.talks import Talk

# Standings tell the order in which the words were heard; silence keeps none of them for long.
ORDER = ((0, 1, (0, 1, 2)), (1, 2, (0, 1, 3)), (-1, 3, (0, 4, 2)), (2, 4, (1, 1, 1)), (3, 5, (2, 2, 2)))


def plain_talk(column, down, up, down_at, up_at, beats):
    """The rows (standings, fronts) of each beat."""
    make = column.make
    delays = [sum(make.lag_of(name) for name in column.groups[:at]) for at in range(len(column))]
    standings, fronts = [0] * len(column), list(column.front_row)
    rows = [(tuple(standings), tuple(fronts))]
    for beat in range(1, beats + 1):
        for at, name in enumerate(column.groups):
            one, two = beat - down_at - delays[at], beat - up_at - (delays[-1] - delays[at])
            first = down[one] if 0 <= one < len(down) else "."
            second = up[two] if 0 <= two < len(up) else "."
            drill = make[name]
            if first == second == ".":
                standings[at] = drill[standings[at]][2][0]
            for sign in (first, second):
                if sign != ".":
                    standings[at] = drill[standings[at]][2][1 + make.words.index(sign)]
            fronts[at] += drill[standings[at]][0]
        rows.append((tuple(standings), tuple(fronts)))
    return rows


class TalkTest(unittest.TestCase):
    def test_two_words(self):
        column = Column(walkers(), "AAAA")
        talk = Talk(column, "a", "b")
        self.assertEqual((talk.column, talk.down, talk.up, talk.down_at, talk.up_at, talk.beats),
                         (column, "a", "b", 1, 1, 4))
        self.assertEqual(list(talk), [(0, 0, 0, 0), (1, 0, 0, 0), (1, 1, 0, 0), (1, 0, 1, 0), (0, 0, 1, 1)])
        self.assertEqual([talk.fronts_at(beat) for beat in (0, 2, 4)], [(0, -3, -6, -9), (2, -2, -6, -9),
                                                                        (3, -2, -4, -8)])
        self.assertEqual([talk.gaps_at(beat) for beat in (0, 2, 4)], [(1, 1, 1), (2, 2, 1), (3, 0, 2)])
        self.assertEqual([talk.length_at(beat) for beat in (0, 4)], [11, 13])
        self.assertEqual(len(talk), 5)
        self.assertEqual([talk.heard(0, beat) for beat in (1, 2, 3, 4)], [("a", "."), (".", "."), (".", "."),
                                                                          (".", "b")])
        self.assertEqual(talk.heard(3, 4), ("a", "."))

    def test_both_words_at_one_beat(self):
        make = Make("ab", [("A", 1, ORDER)])
        column = Column(make, "AAA")
        talk = Talk(column, "a", "b")
        self.assertEqual(talk.heard(1, 2), ("a", "b"))
        # Down and then up, and one stride, that of the standing to which both lead together.
        self.assertEqual(talk.standings_at(2), (0, 3, 0))
        self.assertEqual(talk.fronts_at(2)[1] - talk.fronts_at(1)[1], 2)
        other = Talk(column, "b", "a")
        self.assertEqual(other.standings_at(2), (0, 4, 0))
        same = Talk(column, "a", "a")
        self.assertEqual(same.standings_at(2), (0, 1, 0))

    def test_late_beginnings(self):
        column = Column(two_kinds(), "BAB")
        talk = Talk(column, "a.b", "ba", down_at=5, up_at=2)
        self.assertEqual(talk.beats, 10)
        self.assertEqual([beat for beat in range(1, 11) if talk.heard(0, beat) != (".", ".")], [5, 6, 7])
        self.assertEqual(talk.heard(0, 5), ("a", "b"))
        self.assertEqual(talk.heard(1, 3), (".", "b"))
        self.assertEqual(Talk(column, "", "ba", down_at=400, up_at=2).beats, 6)
        self.assertEqual(Talk(column, "a", "", down_at=400, up_at=500).beats, 403)
        self.assertEqual(Talk(column, "a", "ba", down_at=500, up_at=500).beats, 504)

    def test_beats_that_are_left_out(self):
        column = Column(walkers(), "AA")
        for talk in (Talk(column, "", "", down_at=7, up_at=500), Talk(column, "", "", beats=0)):
            self.assertEqual((talk.beats, len(talk), list(talk)), (0, 1, [(0, 0)]))
        far = Column(Make("ab", [("A", 3, WALK)]), "A" * 60)
        talk = Talk(far, "a" * 400, "b", down_at=500)
        self.assertEqual(talk.beats, 499 + 400 + 177)
        self.assertEqual(len(talk), 1077)
        self.assertEqual(talk.heard(59, 1076), ("a", "."))
        self.assertEqual(Talk(column, "a", "b", beats=1000).length_at(1000), 5 + 1 - 999)
        self.assertEqual(Talk(column, "aaa", "b", beats=1).beats, 1)
        self.assertEqual(Talk(column, "", "", beats=3).standings_at(3), (0, 0))

    def test_against_plain_lookers(self):
        rng = seeded(160)
        for _ in range(60):
            make = random_make(rng, kinds=3, stride=3)
            column = Column(make, "".join(rng.choice(make.all_names) for _ in range(rng.randint(1, 6))))
            down, up = ["".join(rng.choice(".ab") for _ in range(rng.randint(0, 8))) for _ in range(2)]
            down_at, up_at = rng.randint(1, 6), rng.randint(1, 6)
            talk = Talk(column, down, up, down_at=down_at, up_at=up_at, beats=rng.choice([None, None, 3, 30]))
            rows = plain_talk(column, down, up, down_at, up_at, talk.beats)
            self.assertEqual(list(talk), [row[0] for row in rows])
            for beat, (standings, fronts) in enumerate(rows):
                self.assertEqual((talk.standings_at(beat), talk.fronts_at(beat)), (standings, fronts))
                rears = [front - make[name][at][1] for name, at, front in zip(column.groups, standings, fronts)]
                self.assertEqual(talk.gaps_at(beat), tuple(rear - front for rear, front in zip(rears, fronts[1:])))
                self.assertEqual(talk.length_at(beat), fronts[0] - rears[-1])
            quiet = Talk(column, down, "", beats=talk.beats)
            self.assertEqual(list(quiet), list(Run(column, down, talk.beats)))

    def test_wishes(self):
        talk = Talk(Column(walkers(), "AAAA"), "a", "b")
        self.assertIsNone(talk.first_breach((0, 3)))
        self.assertEqual(talk.first_breach([0, 2]), (3, 0))
        self.assertEqual(talk.first_breach((1, 3)), (4, 1))
        self.assertEqual(talk.first_breach((2, 3)), (0, 0))
        self.assertEqual(raised(BadWish, talk.first_breach, (3, 2)).wish, (3, 2))

    def test_beats_and_numbers(self):
        talk = Talk(Column(walkers(), "AAA"), "a", "b")
        for beat in (-1, 4, True, None, "1"):
            for call in (talk.standings_at, talk.fronts_at, talk.gaps_at, talk.length_at):
                self.assertIs(raised(BadBeats, call, beat).beats, beat)
            self.assertIs(raised(BadBeats, talk.heard, 0, beat).beats, beat)
        self.assertEqual(raised(BadBeats, talk.heard, 2, 0).beats, 0)
        self.assertEqual(talk.heard(2, 3), ("a", "."))
        for number in (-1, 3, True, None, "0"):
            self.assertIs(raised(BadNumber, talk.heard, number, 9).number, number)

    def test_errors(self):
        column = Column(walkers(), "AA")
        for calling, number in (("ac", 1), ("A", 0), (None, -1), (("a",), -1), ("a" * 401, -1), (True, -1)):
            self.assertEqual(raised(BadCalling, Talk, column, calling, None, down_at=0).number, number)
            self.assertEqual(raised(BadCalling, Talk, column, "", calling, down_at=0).number, number)
        for at in (0, 501, -1, True, None, "1"):
            self.assertIs(raised(BadBeats, Talk, column, "", "", down_at=at, up_at=0, beats=-1).beats, at)
            self.assertIs(raised(BadBeats, Talk, column, "", "", up_at=at, beats=-1).beats, at)
        for beats in (-1, 1001, True, "1"):
            self.assertIs(raised(BadBeats, Talk, column, "", "", beats=beats).beats, beats)
        self.assertEqual(Talk(column, "a" * 400, "", down_at=500, up_at=1, beats=1000).beats, 1000)


class MeetingTest(unittest.TestCase):
    def test_up_delays(self):
        self.assertEqual(up_delays(Column(walkers(), "A")), (0,))
        self.assertEqual(up_delays(Column(two_kinds(), "ABBA")), (5, 4, 2, 0))
        self.assertEqual(up_delays(Column(two_kinds(), "BBAB")), (5, 3, 1, 0))

    def test_in_the_middle(self):
        column = Column(walkers(), "AAAAA")
        self.assertEqual(meeting(column, 1, 1), (2, 1, 2))
        self.assertEqual(meeting(column, 2, 1), (2, 0, 3))
        self.assertEqual(meeting(column, 1, 3), (3, 1, 1))
        self.assertEqual(meeting(column, 7, 3), (0, 1, 4))
        self.assertEqual(meeting(column, 8, 3), (0, 0, 5))
        self.assertEqual(meeting(column, 3, 8), (5, 0, 0))
        self.assertEqual(meeting(Column(walkers(), "A"), 9, 9), (0, 1, 0))
        self.assertEqual(meeting(Column(walkers(), "A"), 500, 1), (0, 0, 1))

    def test_against_talks(self):
        rng = seeded(161)
        for _ in range(60):
            make = random_make(rng, kinds=3)
            column = Column(make, "".join(rng.choice(make.all_names) for _ in range(rng.randint(1, 9))))
            down_at, up_at = rng.randint(1, 20), rng.randint(1, 20)
            talk = Talk(column, "a", "b", down_at=down_at, up_at=up_at)
            counts = [0, 0, 0]
            for at in range(len(column)):
                downs = [beat for beat in range(1, talk.beats + 1) if talk.heard(at, beat)[0] == "a"]
                ups = [beat for beat in range(1, talk.beats + 1) if talk.heard(at, beat)[1] == "b"]
                counts[0 if downs < ups else 1 if downs == ups else 2] += 1
            self.assertEqual(meeting(column, down_at, up_at), tuple(counts))
            self.assertLessEqual(counts[1], 1)

    def test_errors(self):
        column = Column(walkers(), "AA")
        for beat in (0, 501, True, None, "1", -3):
            self.assertIs(raised(BadBeats, meeting, column, beat, 0).beats, beat)
            self.assertIs(raised(BadBeats, meeting, column, 500, beat).beats, beat)


if __name__ == "__main__":
    unittest.main()
