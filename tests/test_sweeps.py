"""[6], [7], [16]: lots, what it costs to go on from them, sweeps and their scripts."""

import itertools
import unittest

from cavesweep import sweeps
from cavesweep.errors import InvalidCave, InvalidLot, InvalidSweep, InvalidWay
from cavesweep.scripts import is_sure, uses
from cavesweep.sweeps import cost_by, cost_of, script_of
from support import CAVES, GREAT, NO_CAVES, ONE, PARTS, PATH, RING, STAR, THINGS
from support import Case, plain_cost, plain_states, plain_sweep_cost, random_cave, seeded, without

# Things that are no lots of the star.
NO_LOTS = without(THINGS, ()) + [
    [], [(0, 1)], ([0, 1],), ((False, 1),), ((0, True),), ((0, 2), (0, 1)), ((0, 1), (0, 1)), ((1, 0),), ((1, 2),), ((0, 4),),
    ((0, 1), (1, 2)), ((0, 1), None), {(0, 1): True}, {}, ((0, 1), (0, 2), (0, 3), (0, 4)), ("0-1",), (((0, 1),),),
    ((0, 1), [0, 2]), ((0, 1), (0, 2, 2)), STAR[::-1], list(STAR), (0, 1),
]

# Things that are no foul ways of the star from the lot ((0, 1),).
NO_WAYS = without(THINGS) + [
    (0, 1), [0, 2], (2, 0), (0, 4), (1, 2), (False, 2), (0, True), (0, 2, 2), (0,), ((0, 2),), [(0, 2)], {0: 2}, ("0", "2"),
    (0, None), (0, (2,)), (0, [2]), "0-2", (0, -1), (0, 10 ** 39), (0, 102),
]

# Things that are no sweeps of the star.
NO_SWEEPS = THINGS + [
    STAR, list(STAR[:2]), list(STAR) + [(0, 1)], [(0, 1), (0, 2), (0, 2)], [(0, 1), (0, 2), (1, 2)], [(0, 1), (0, 2), (0, 4)],
    [[0, 1], (0, 2), (0, 3)], [(False, 1), (0, 2), (0, 3)], [(0, True), (0, 2), (0, 3)], [(1, 0), (0, 2), (0, 3)],
    {way: True for way in STAR}, [STAR], [(0, 1), (0, 2), None], [(0, 1), (0, 2), (0, 3, 3)], [0, 1, 2], [(0, 1), (0, 2), {}],
    [(0, 1), (0, 2), (0, [3])], ["0-1", "0-2", "0-3"], [[(0, 1), (0, 2), (0, 3)]], [None, (0, 1), (0, 2)],
]


class Costs(Case):
    def test_interface(self):
        self.interface(sweeps, cost_by="cave lot way", cost_of="cave ways", script_of="cave ways")

    def test_examples(self):
        self.assertEqual(
            (cost_by(STAR, (), (0, 1)), cost_by(STAR, ((0, 1),), (0, 2)), cost_by(STAR, ((0, 1), (0, 2)), (0, 3))),
            (1, 2, 1))
        self.assertEqual((cost_of(STAR, [(0, 1), (0, 3), (0, 2)]), cost_of(((0, 1), (1, 2)), [(0, 1), (1, 2)])), (2, 1))
        steps = script_of(STAR, [(0, 1), (0, 3), (0, 2)])
        self.assertEqual((is_sure(STAR, steps), uses(STAR, steps)), (True, 2))

    def test_each_way_it_can_cost(self):
        line = tuple((n, n + 1) for n in range(5))
        self.assertEqual(cost_by(line, (), (0, 1)), 1)
        self.assertEqual(cost_by(line, (), (1, 2)), 2)
        self.assertEqual(cost_by(line, ((1, 2),), (2, 3)), 2)
        self.assertEqual(cost_by(line, ((1, 2),), (4, 5)), 3)
        self.assertEqual(cost_by(line, ((1, 2),), (3, 4)), 4)
        self.assertEqual(cost_by(STAR, ((0, 1),), (0, 2)), 2)
        # Both ends are in the border; from one of them no other foul way leads.
        self.assertEqual(cost_by(RING, ((0, 1),), (0, 2)), 2)
        self.assertEqual(cost_by(RING, ((0, 1), (0, 2)), (1, 2)), 2)
        # The less of both ends, be it the first or the second.
        self.assertEqual(cost_by(((0, 1), (0, 2), (0, 3)), (), (0, 1)), 1)
        self.assertEqual(cost_by(((0, 3), (1, 3), (2, 3)), (), (0, 3)), 1)

    def test_cost_by_like_the_plain_rule(self):
        chance = seeded(16)
        for cave in CAVES:
            for _ in range(40):
                lot = tuple(sorted(chance.sample(cave, chance.randrange(len(cave)))))
                for way in cave:
                    if way not in lot:
                        self.assertEqual(cost_by(cave, lot, way), plain_cost(cave, lot, way), (cave, lot, way))
            self.assertEqual(self.call(cost_by, cave, (), cave[0]), plain_cost(cave, (), cave[0]))

    def test_no_way_is_left(self):
        for cave in CAVES:
            for way in cave:
                self.raises(InvalidWay, cost_by, cave, cave, way)

    def test_the_last_way(self):
        for cave in CAVES:
            for way in cave:
                lot = tuple(other for other in cave if other != way)
                self.assertEqual(self.call(cost_by, cave, lot, way), plain_cost(cave, lot, way))

    def test_cost_of_like_the_plain_rule(self):
        chance = seeded(17)
        for cave in CAVES:
            for _ in range(20):
                ways = chance.sample(cave, len(cave))
                self.assertEqual(self.call(cost_of, cave, ways), plain_sweep_cost(cave, ways))

    def test_no_caves(self):
        for thing in NO_CAVES:
            self.raises(InvalidCave, cost_by, thing, (), (0, 1))
            self.raises(InvalidCave, cost_of, thing, [(0, 1)])
            self.raises(InvalidCave, script_of, thing, [(0, 1)])

    def test_no_lots(self):
        for thing in NO_LOTS:
            self.raises(InvalidLot, cost_by, STAR, thing, (0, 2))

    def test_no_foul_ways(self):
        for thing in NO_WAYS:
            self.raises(InvalidWay, cost_by, STAR, ((0, 1),), thing)

    def test_no_sweeps(self):
        for thing in NO_SWEEPS:
            self.raises(InvalidSweep, cost_of, STAR, thing)
            self.raises(InvalidSweep, script_of, STAR, thing)
        self.raises(InvalidSweep, cost_of, GREAT, list(GREAT[:-1]) + [(0, 1)])

    def test_the_first_error(self):
        for cave in NO_CAVES[::7]:
            for thing in NO_LOTS[::7]:
                self.raises(InvalidCave, cost_by, cave, thing, None)
                self.raises(InvalidCave, cost_of, cave, thing)
                self.raises(InvalidCave, script_of, cave, thing)
        for lot in NO_LOTS[::3]:
            for way in NO_WAYS[::7]:
                self.raises(InvalidLot, cost_by, STAR, lot, way)


class Scripts(Case):
    def check_script(self, cave, ways):
        """That a script is what [16] promises, each step by the plain rules."""
        steps = self.call(script_of, cave, ways)
        self.assertIs(type(steps), list)
        states = plain_states(cave, steps)
        self.assertEqual(states[-1][1], [])
        made = []
        for (_, before), (_, behind) in itertools.pairwise(states):
            self.assertLessEqual(set(behind), set(before), (cave, ways, steps))
            made.extend(sorted(set(before) - set(behind)))
        self.assertEqual(made, ways)
        self.assertEqual(max(len(searchers) for searchers, _ in states), plain_sweep_cost(cave, ways))
        self.assertTrue(is_sure(cave, steps))

    def test_all_sweeps_of_small_caves(self):
        for cave in (ONE, PATH, STAR, RING, PARTS, ((0, 1), (0, 2), (0, 3), (1, 2)), ((0, 1), (2, 3), (2, 4), (3, 4))):
            for ways in itertools.permutations(cave):
                self.check_script(cave, list(ways))

    def test_some_sweeps_of_greater_caves(self):
        chance = seeded(18)
        for cave in CAVES:
            for _ in range(15):
                self.check_script(cave, chance.sample(cave, len(cave)))

    def test_random_caves(self):
        chance = seeded(19)
        for _ in range(150):
            cave = random_cave(chance, chance.randint(1, 12), chance.randint(4, 9))
            self.check_script(cave, chance.sample(cave, len(cave)))

    def test_the_great_cave(self):
        ways = list(GREAT)
        steps = script_of(GREAT, ways)
        self.assertTrue(is_sure(GREAT, steps))
        self.assertEqual(uses(GREAT, steps), cost_of(GREAT, ways))


if __name__ == "__main__":
    unittest.main()
