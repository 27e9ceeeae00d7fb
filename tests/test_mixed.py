"""[32]: mixed scripts."""

import itertools
import unittest

from cavesweep import mixed as module
from cavesweep.errors import InvalidCave, InvalidLot, InvalidNumber, InvalidScript, InvalidWay
from cavesweep.least import least
from cavesweep.mixed import can_mix, is_mixed, least_mixed, mixed_by, mixed_cost_by, mixed_script, mixed_used
from cavesweep.scripts import left_by
from cavesweep.sweeps import cost_by, script_of
from support import CAVES, FAR, FULL, GREAT, NO_CAVES, NO_NUMBERS, NO_SCRIPTS, ONE, PARTS, PATH, RING, STAR, THINGS
from support import Case, Plain, path_of, plain_border, plain_cost, plain_states, plain_sure_with, plain_uses, random_cave, random_steps, seeded
from support import star_of, told, with_way, without

EXAMPLES = """
>>> from cavesweep.mixed import can_mix, is_mixed, least_mixed, mixed_by, mixed_cost_by, mixed_script, mixed_used
>>> ring, steps = ((0, 1), (0, 2), (1, 2)), [('set', 0), ('set', 1), ('lead', 0, 2)]
>>> mixed_by(ring, steps), is_mixed(ring, steps), can_mix(ring, steps, ('take', 0))
(([1, 2], []), True, False)
>>> mixed_cost_by(ring, (), (0, 1)), mixed_cost_by(ring, ((0, 1),), (0, 2)), least_mixed(ring)
(2, 2, 2)
>>> full = ((0, 1), (0, 2), (0, 3), (1, 2), (1, 3), (2, 3))
>>> least_mixed(full), mixed_used(full, mixed_script(full, 3)), mixed_script(full, 2) is None
(3, 3, True)
"""

NO_LOTS = without(THINGS, (), ((0, 1),)) + [
    ((0, 1), (0, 1)), ((0, 2), (0, 1)), ((1, 0),), ((0, 4),), ((1, 2),), [(0, 1)], [], ([0, 1],), ((False, 1),), ((0, True),), ((0, 1), None),
    ((0, 1), (0, 2), (0, 3), (1, 2)), {(0, 1): 1}, "0-1", ((0, 1, 2),), (0, 1), ({},), ([],), ((0, 10 ** 39),),
]


def plain_mixed_cost(cave, lot, way):
    """What it costs to go on in either manner, as [32] tells it."""
    return min(plain_cost(cave, lot, way), len(set(plain_border(cave, lot)) | set(way)))


def plain_least_mixed(cave):
    """The least cost of a sweep in either manner, lot by lot, the lesser lots first."""
    worth = {(): 0}
    for many in range(1, len(cave) + 1):
        for lot in itertools.combinations(cave, many):
            worth[lot] = min(
                max(worth[ahead], plain_mixed_cost(cave, ahead, way))
                for way in lot for ahead in [tuple(other for other in lot if other != way)])
    return worth[cave]


def some_scripts(seed, many, most):
    chance = seeded(seed)
    for _ in range(many):
        cave = chance.choice(CAVES + [random_cave(chance, chance.randint(1, 9))])
        yield cave, random_steps(chance, cave, chance.randint(0, most), chance.choice((0, 1, 4, 12)), "mixed")


class Mixed(Case):
    def test_interface(self):
        self.interface(
            module, can_mix="cave steps step", mixed_by="cave steps", mixed_used="cave steps", is_mixed="cave steps",
            mixed_cost_by="cave lot way", least_mixed="cave", mixed_script="cave k")

    def test_examples(self):
        self.has_examples(module, EXAMPLES)

    def check(self, cave, steps):
        searchers, foul = plain_states(cave, steps, "mixed")[-1]
        self.assertEqual(told(self.call(mixed_by, cave, steps)), told((searchers, foul)), (cave, steps))
        self.is_bool(not foul, self.call(is_mixed, cave, steps), (cave, steps))
        self.assertEqual(told(self.call(mixed_used, cave, steps)), told(plain_uses(cave, steps, "mixed")))

    def test_drawn_scripts(self):
        for cave, steps in some_scripts(321, 400, 24):
            self.check(cave, steps)

    def test_every_beginning_of_longer_scripts(self):
        for cave, steps in some_scripts(322, 12, 40):
            for at in range(len(steps)):
                self.check(cave, steps[:at])

    def test_no_steps(self):
        for cave in CAVES + [GREAT]:
            self.assertEqual(told(self.call(mixed_by, cave, [])), told(([], list(cave))))
            self.assertEqual(told((mixed_used(cave, []), is_mixed(cave, []))), told((0, False)))

    def test_other_than_either_kind_alone(self):
        # Behind a lead both the way along which it went is clean and those with searchers at both ends.
        steps = [("set", 0), ("set", 1), ("lead", 0, 2)]
        self.assertEqual(mixed_by(RING, steps), ([1, 2], []))
        self.assertEqual(left_by(RING, steps), ([1, 2], list(RING)))
        # A way that was clean by its ends stays so when one of them is led off, unless a foul way ends there.
        self.assertEqual(mixed_by(path_of(3), [("set", 1), ("set", 2), ("lead", 1, 0)]), ([0, 2], [(2, 3)]))
        self.assertEqual(mixed_by(path_of(3), [("set", 0), ("set", 1), ("lead", 1, 2)]), ([0, 2], [(2, 3)]))
        self.assertEqual(mixed_by(STAR, [("set", 0), ("set", 1), ("lead", 0, 2)]), ([1, 2], list(STAR)))
        self.assertEqual(mixed_by(STAR, [("set", 0), ("set", 0), ("set", 1), ("lead", 0, 2)]), ([0, 1, 2], [(0, 3)]))
        # To where one is already, and along the way that both their ends make clean.
        self.assertEqual(mixed_by(PATH, [("set", 0), ("set", 1), ("lead", 0, 1)]), ([1, 1], [(1, 2)]))

    def test_steps_that_can_be(self):
        chance = seeded(323)
        for cave, steps in some_scripts(324, 60, 12):
            play = Plain(cave, "mixed")
            for step in steps:
                play.go(step)
            rooms = sorted(play.rooms) + [0, 1, 50, 100, -1]
            for _ in range(12):
                word, room, other = chance.choice(("set", "take", "lead")), chance.choice(rooms), chance.choice(rooms)
                for step in ((word, room), (word, room, other)):
                    self.is_bool(play.can(step), self.call(can_mix, cave, steps, step), (cave, steps, step))
            for step in play.all_steps():
                self.is_bool(True, can_mix(cave, steps, step))

    def test_objects_that_are_no_steps(self):
        for thing in without(THINGS, ("set", 0)):
            self.is_bool(False, self.call(can_mix, STAR, [("set", 0)], thing), thing)
        wrong = [
            ["set", 0], ("set", False), ("set", 4), ("set", "0"), ("take", 1), ("take", False), ("take", {}), ("lead", 0, 0), ("lead", 1, 0),
            ("lead", 0, True), ("lead", False, 1), ("lead", 0), ("lead", 0, 1, 1), ("lead", 0, 4), ("lead", [], {}), ("lead", (0, 1)),
            ["lead", 0, 1], ("Lead", 0, 1), (None, 0), ([], 0, 1), ({}, 0), ("set", 10 ** 39), ("lead", 0, None), ("lead", 0, 10 ** 39),
        ]
        for thing in wrong:
            self.is_bool(False, self.call(can_mix, STAR, [("set", 0)], thing), thing)
        for thing in (("set", 0), ("set", 3), ("take", 0), ("lead", 0, 1), ("lead", 0, 3)):
            self.is_bool(True, self.call(can_mix, STAR, [("set", 0)], thing), thing)
        self.is_bool(False, can_mix(RING + ((2, 3),), [("set", 0)], ("lead", 0, 3)))

    def test_costs(self):
        chance = seeded(325)
        less = 0
        for cave in CAVES + [random_cave(chance, chance.randint(1, 9)) for _ in range(20)]:
            for _ in range(25):
                lot = tuple(sorted(chance.sample(cave, chance.randrange(len(cave)))))
                for way in set(cave) - set(lot):
                    found = self.call(mixed_cost_by, cave, lot, way)
                    self.assertEqual(told(found), told(plain_mixed_cost(cave, lot, way)), (cave, lot, way))
                    self.assertLessEqual(found, cost_by(cave, lot, way))
                    less += found < cost_by(cave, lot, way)
        self.assertGreater(less, 50)

    def test_all_costs_of_small_caves(self):
        for cave in (ONE, PATH, STAR, RING, PARTS, FULL, RING + ((2, 3),), ((0, 1), (2, 3))):
            for many in range(len(cave)):
                for lot in itertools.combinations(cave, many):
                    for way in set(cave) - set(lot):
                        self.assertEqual(mixed_cost_by(cave, lot, way), plain_mixed_cost(cave, lot, way), (cave, lot, way))

    def test_the_least_over_all_lots(self):
        chance = seeded(326)
        for cave in CAVES + [random_cave(chance, chance.randint(1, 8)) for _ in range(15)]:
            many = plain_least_mixed(cave)
            self.assertEqual(told(self.call(least_mixed, cave)), told(many), cave)
            for k in range(many + 3):
                self.check_script(cave, k, k >= many)
            self.check_script(cave, 10 ** 40 - 1, True)

    def check_script(self, cave, k, enough):
        steps = self.call(mixed_script, cave, k)
        if not enough:
            self.assertIs(steps, None)
            return
        self.assertIs(type(steps), list)
        self.assertEqual(plain_states(cave, steps, "mixed")[-1][1], [], (cave, k, steps))
        self.assertLessEqual(plain_uses(cave, steps, "mixed"), k)
        self.assertEqual((is_mixed(cave, steps), mixed_used(cave, steps) <= k), (True, True))

    def test_the_least_over_all_states(self):
        chance = seeded(327)
        for cave in [ONE, PATH, STAR, RING, PARTS, ((0, 1), (2, 3))] + [random_cave(chance, chance.randint(1, 5), 5) for _ in range(8)]:
            many = least_mixed(cave)
            self.assertTrue(plain_sure_with(cave, many, "mixed"), cave)
            self.assertFalse(plain_sure_with(cave, many - 1, "mixed"), cave)

    def test_known_numbers(self):
        self.assertEqual([least_mixed(cave) for cave in (ONE, PATH, STAR, RING, FULL, path_of(9), star_of(9))], [1, 1, 2, 2, 3, 1, 2])
        self.assertEqual(least_mixed(((0, 1), (2, 3), (4, 5))), 1)
        self.assertEqual(least_mixed(((0, 3), (0, 4), (0, 5), (1, 3), (1, 4), (1, 5), (2, 3), (2, 4), (2, 5))), 4)
        # Somewhat more ways.
        self.assertEqual((least_mixed(path_of(11)), least_mixed(tuple(itertools.combinations(range(5), 2)))), (1, 4))

    def test_scripts_of_other_kinds_are_sure_too(self):
        chance = seeded(328)
        for cave in CAVES:
            steps = script_of(cave, chance.sample(cave, len(cave)))
            self.assertTrue(is_mixed(cave, steps), cave)
            self.assertIs(mixed_script(cave, least(cave)) is None, False)

    def test_less_foul_than_by_either_kind(self):
        chance = seeded(329)
        for _ in range(150):
            cave = chance.choice(CAVES)
            steps = random_steps(chance, cave, 15, 3)
            self.assertLessEqual(set(mixed_by(cave, steps)[1]), set(left_by(cave, steps)[1]))
            self.assertEqual(mixed_by(cave, steps)[0], left_by(cave, steps)[0])

    def test_no_ways(self):
        wrong = without(THINGS, (0, 1)) + [
            (1, 0), [0, 1], (False, 1), (0, True), (0, 4), (1, 2), ((0, 1),), (0, 1, 1), ("0", "1"), ([], 1), ({}, {}), (0, None), (0, 10 ** 39)]
        for thing in wrong:
            self.raises(InvalidWay, mixed_cost_by, STAR, (), thing)
        for lot in (((0, 1),), ((0, 1), (0, 2)), STAR):
            self.raises(InvalidWay, mixed_cost_by, STAR, lot, (0, 1))
        # Two rooms without a way between them.
        self.raises(InvalidWay, mixed_cost_by, RING + ((2, 3),), (), (0, 3))
        self.raises(InvalidWay, mixed_cost_by, PARTS, (), (0, 3))

    def test_no_lots(self):
        for thing in NO_LOTS:
            self.raises(InvalidLot, mixed_cost_by, STAR, thing, (0, 1))
            self.raises(InvalidLot, mixed_cost_by, STAR, thing, thing)
        self.raises(InvalidLot, mixed_cost_by, RING + ((2, 3),), ((0, 3),), (0, 1))

    def test_no_scripts(self):
        for thing in NO_SCRIPTS:
            for function in (mixed_by, mixed_used, is_mixed):
                self.raises(InvalidScript, function, STAR, thing)
            self.raises(InvalidScript, can_mix, STAR, thing, ("set", 0))
            self.raises(InvalidScript, can_mix, STAR, thing, None)

    def test_no_numbers(self):
        for cave in (STAR, ONE, GREAT):
            for thing in NO_NUMBERS:
                self.raises(InvalidNumber, mixed_script, cave, thing)

    def test_no_caves(self):
        for thing in NO_CAVES:
            for function in (mixed_by, mixed_used, is_mixed):
                self.raises(InvalidCave, function, thing, [])
            self.raises(InvalidCave, can_mix, thing, [], ("set", 0))
            self.raises(InvalidCave, mixed_cost_by, thing, (), (0, 1))
            self.raises(InvalidCave, least_mixed, thing)
            self.raises(InvalidCave, mixed_script, thing, 1)

    def test_the_first_error(self):
        for cave in NO_CAVES[::6]:
            for thing in NO_SCRIPTS[::9]:
                self.raises(InvalidCave, mixed_by, cave, thing)
                self.raises(InvalidCave, can_mix, cave, thing, thing)
                self.raises(InvalidCave, mixed_cost_by, cave, thing, thing)
            for thing in NO_NUMBERS[::9]:
                self.raises(InvalidCave, mixed_script, cave, thing)

    def test_long_scripts(self):
        steps = [("set", 0), ("set", 1)] + [("lead", 0, 1), ("lead", 1, 2), ("lead", 2, 1), ("lead", 1, 0)] * 1500
        self.assertEqual((mixed_by(PATH, steps), mixed_used(PATH, steps)), (([0, 1], []), 2))
        self.assertEqual(mixed_by(PATH, [("set", 1)] * 3000)[0], [1] * 3000)
        self.assertEqual(with_way(((0, 1),), (0, 2)), STAR[:2])
        self.assertEqual(mixed_by(FAR, [("set", 99), ("set", 0)]), ([0, 99], []))


if __name__ == "__main__":
    unittest.main()
