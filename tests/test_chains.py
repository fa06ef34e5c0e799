"""[40] chains of obstacles."""

import unittest

from helpers import plain_obstacle, raised, random_obstacle, seeded
from tailheard.chains import Chain
from tailheard.errors import BadChain, BadMost, BadStream
from tailheard.obstacles import Obstacle

ONE = Obstacle.plain("AB", "B", (1, 3))
TWO = Obstacle.plain("AB", "A", (1, 3))
OTHER = Obstacle.plain("AC", "A", (1, 3))


class ChainTest(unittest.TestCase):
    def test_attributes(self):
        told = Chain([ONE, TWO])
        self.assertEqual((told.obstacles, len(told), list(told)), ((ONE, TWO), 2, [ONE, TWO]))
        self.assertIs(told.obstacles[0], ONE)
        self.assertEqual((len(Chain((ONE,))), len(Chain((ONE,) * 3))), (1, 3))
        rows = [ONE]
        told = Chain(rows)
        rows.append(TWO)
        self.assertEqual(told.obstacles, (ONE,))

    def test_bad_chains(self):
        for obstacles in ((), [ONE] * 4, None, 0, "AB", ONE, {}, [None] * 4):
            self.assertEqual(raised(BadChain, Chain, obstacles).number, -1)
        for obstacles, number in (([None], 0), ([ONE, None], 1), ([ONE, OTHER], 1), ([ONE, TWO, OTHER], 2),
                                  ([None, OTHER], 0), ([ONE, "AB", OTHER], 1), ([ONE, [TWO]], 1), ([Chain([ONE])], 0)):
            self.assertEqual(raised(BadChain, Chain, obstacles).number, number)

    def test_streams(self):
        told = Chain([ONE, TWO])
        # The second obstacle holds back the groups that the first one let ahead.
        self.assertEqual(told("BA......"), TWO(ONE("BA......")))
        self.assertEqual(Chain([ONE])("BA...."), ONE("BA...."))
        self.assertEqual(told(""), "")
        for stream, number in (("C", 0), ("AB?", 2), (None, -1), (["A"], -1), ("." * 401, -1)):
            self.assertEqual(raised(BadStream, told, stream).number, number)
        self.assertEqual(told("." * 400), "." * 400)

    def test_streams_against_a_plain_looker(self):
        rng = seeded(452)
        for _ in range(100):
            told = Chain([random_obstacle(rng) for _ in range(rng.randint(1, 3))])
            stream = "".join(rng.choice(".AB") for _ in range(rng.randint(0, 30)))
            out = stream
            for obstacle in told:
                out = plain_obstacle(obstacle, out)
            self.assertEqual(told(stream), out)
            # What comes out of a beginning is a beginning of what comes out.
            cut = rng.randint(0, len(stream))
            self.assertEqual(told(stream[:cut]), out[:cut])

    def test_joined(self):
        told = Chain([ONE]) + Chain([TWO, ONE])
        self.assertEqual(told, Chain([ONE, TWO, ONE]))
        self.assertEqual(raised(BadChain, lambda: told + Chain([ONE])).number, -1)
        self.assertEqual(raised(BadChain, lambda: Chain([ONE, TWO]) + Chain([OTHER])).number, 2)
        self.assertEqual(raised(BadChain, lambda: Chain([ONE, TWO]) + Chain([OTHER, OTHER])).number, -1)
        self.assertRaises(TypeError, lambda: Chain([ONE]) + [TWO])

    def test_repeated(self):
        told = Chain([ONE])
        self.assertEqual((told * 1, told * 3), (told, Chain([ONE] * 3)))
        self.assertEqual(raised(BadChain, lambda: told * 4).number, -1)
        self.assertEqual(raised(BadChain, lambda: Chain([ONE, TWO]) * 2).number, -1)
        self.assertEqual(raised(BadChain, lambda: told * 10 ** 39).number, -1)
        self.assertEqual(Chain([ONE, TWO, ONE]) * 1, Chain([ONE, TWO, ONE]))
        for times in (0, -1, True, None, "1", (1,)):
            self.assertIs(raised(BadMost, lambda: told * times).most, times)
            self.assertIs(raised(BadMost, lambda: Chain([ONE, TWO, ONE]) * times).most, times)

    def test_equal(self):
        self.assertIs(Chain([ONE]) == Chain([Obstacle.plain("AB", "B", [1, 3])]), True)
        for other in (Chain([TWO]), Chain([ONE, ONE]), ONE, None, (ONE,)):
            self.assertIs(Chain([ONE]) == other, False)


if __name__ == "__main__":
    unittest.main()
