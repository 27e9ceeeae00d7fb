"""[22]: ways to shut."""

import itertools
import unittest

from cavesweep import shut as module
from cavesweep.errors import InvalidCave, InvalidNumber
from cavesweep.least import least
from cavesweep.shut import least_shut
from support import CAVES, FULL, GREAT, NO_CAVES, NO_NUMBERS, ONE, PATH, RING, STAR
from support import Case, path_of, plain_enough, random_cave, seeded, star_of, told

EXAMPLES = """
>>> from cavesweep.shut import least_shut
>>> least_shut(((0, 1), (0, 2), (0, 3)), 1), least_shut(((0, 1), (1, 2)), 1), least_shut(((0, 1), (1, 2)), 0)
([[(0, 1)], [(0, 2)], [(0, 3)]], [[]], [[(0, 1), (1, 2)]])
"""


def some_of(ways):
    """All lists of some of the ways, all or none."""
    return [list(some) for many in range(len(ways) + 1) for some in itertools.combinations(ways, many)]


def plain_shut(cave, k):
    """The lists of [22], each by itself: enough without them, and not without some of them only."""
    enough = {tuple(some): plain_enough([way for way in cave if way not in some], k) for some in some_of(cave)}
    return sorted(
        list(some) for some in enough
        if enough[some] and not any(enough[tuple(fewer)] for fewer in some_of(some) if len(fewer) < len(some)))


class Shut(Case):
    def test_interface(self):
        self.interface(module, least_shut="cave k")

    def test_examples(self):
        self.has_examples(module, EXAMPLES)

    def test_like_the_plain_rules(self):
        chance = seeded(221)
        some = [random_cave(chance, chance.randint(1, 6), chance.randint(4, 7)) for _ in range(25)]
        for cave in [cave for cave in CAVES if len(cave) <= 6] + some + [path_of(6), star_of(6), RING + ((3, 4), (3, 5), (4, 5))]:
            for k in range(5):
                found = self.call(least_shut, cave, k)
                self.assertEqual(told(found), told(plain_shut(cave, k)), (cave, k))

    def test_no_searchers(self):
        for cave in CAVES:
            if len(cave) <= 6:
                self.assertEqual(self.call(least_shut, cave, 0), [list(cave)])

    def test_enough_from_the_beginning(self):
        for cave in CAVES:
            if len(cave) <= 6:
                for k in (least(cave), least(cave) + 1, 99, 10 ** 40 - 1):
                    self.assertEqual(self.call(least_shut, cave, k), [[]])
                self.assertNotIn([], least_shut(cave, least(cave) - 1))

    def test_several_parts(self):
        # One searcher does one part behind the other, so each ring needs one way shut.
        rings = RING + ((5, 6), (5, 7), (6, 7))
        found = self.call(least_shut, rings, 1)
        self.assertEqual(found, [[way, other] for way in rings[:3] for other in rings[3:]])
        self.assertEqual(least_shut(rings, 2), [[]])
        self.assertEqual(least_shut(((0, 1), (2, 3), (4, 5)), 1), [[]])
        self.assertEqual(least_shut(STAR + ((8, 9),), 1), [[way] for way in STAR])

    def test_least_by_their_parts(self):
        # Of a ring with a tail one way is enough, or two others are needed.
        cave = ((0, 1), (0, 2), (1, 2), (2, 3))
        found = least_shut(cave, 1)
        self.assertEqual(found, plain_shut(cave, 1))
        self.assertEqual(found, [[(0, 1), (2, 3)], [(0, 2)], [(1, 2)]])

    def test_lists_are_new(self):
        found = least_shut(PATH, 0)
        found[0].append((0, 99))
        self.assertEqual(least_shut(PATH, 0), [[(0, 1), (1, 2)]])

    def test_somewhat_more_ways(self):
        self.assertEqual(least_shut(path_of(8), 1), [[]])
        self.assertEqual(least_shut(star_of(7), 1), [list(some) for some in itertools.combinations(star_of(7), 5)])

    def test_no_caves(self):
        for thing in NO_CAVES:
            self.raises(InvalidCave, least_shut, thing, 1)

    def test_no_numbers(self):
        for cave in (STAR, ONE, FULL, GREAT, path_of(99)):
            for thing in NO_NUMBERS:
                self.raises(InvalidNumber, least_shut, cave, thing)

    def test_the_first_error(self):
        for cave in NO_CAVES[::5]:
            for thing in NO_NUMBERS[::5]:
                self.raises(InvalidCave, least_shut, cave, thing)


if __name__ == "__main__":
    unittest.main()
