"""[23]: steps that can be left out, scripts that leave alike, the first step that fouls."""

import unittest

from cavesweep import steps as module
from cavesweep.errors import InvalidCave, InvalidScript
from cavesweep.scripts import left_by
from cavesweep.steps import alike, first_foul, needless
from cavesweep.sweeps import script_of
from support import CAVES, GREAT, NO_CAVES, NO_SCRIPTS, ONE, PATH, RING, STAR
from support import Case, Plain, path_of, plain_first_foul, plain_states, random_cave, random_steps, seeded

EXAMPLES = """
>>> from cavesweep.steps import alike, first_foul, needless
>>> path = ((0, 1), (1, 2))
>>> needless(path, [('set', 0), ('set', 2), ('lead', 0, 1), ('lead', 1, 2)])
[1]
>>> first_foul(path, [('set', 1), ('lead', 1, 0), ('lead', 0, 1)]) is None, first_foul(path, [('set', 0), ('lead', 0, 1), ('take', 1)])
(True, 2)
>>> alike(path, [('set', 0), ('set', 1)], [('set', 1), ('set', 0)])
True
"""


def foul_behind(cave, steps):
    """How many ways are foul behind steps, or None if they are no script."""
    play = Plain(cave)
    for step in steps:
        if not play.can(step):
            return None
        play.go(step)
    return len(play.foul)


def plain_needless(cave, steps):
    many = foul_behind(cave, steps)
    found = []
    for at in range(len(steps)):
        left = foul_behind(cave, steps[:at] + steps[at + 1:])
        if left is not None and left <= many:
            found.append(at)
    return found


def some_scripts(seed, many, most):
    chance = seeded(seed)
    for _ in range(many):
        cave = chance.choice(CAVES + [random_cave(chance, chance.randint(1, 8))])
        yield cave, random_steps(chance, cave, chance.randint(1, most), chance.choice((0, 1, 4, 12)))


class Steps(Case):
    def test_interface(self):
        self.interface(module, needless="cave steps", alike="cave steps other", first_foul="cave steps")

    def test_examples(self):
        self.has_examples(module, EXAMPLES)

    def check(self, cave, steps):
        found = self.call(needless, cave, steps)
        self.assertIs(type(found), list)
        self.assertEqual(found, plain_needless(cave, steps), (cave, steps))
        self.assertEqual(self.call(first_foul, cave, steps), plain_first_foul(cave, steps), (cave, steps))

    def test_random_scripts(self):
        for cave, steps in some_scripts(231, 250, 18):
            self.check(cave, steps)

    def test_longer_scripts(self):
        for cave, steps in some_scripts(232, 12, 70):
            self.check(cave, steps)

    def test_sure_scripts(self):
        for cave in CAVES:
            steps = script_of(cave, list(cave))
            self.check(cave, steps)
            self.assertIs(first_foul(cave, steps), None)

    def test_sure_scripts_with_more_steps(self):
        chance = seeded(233)
        for cave in CAVES:
            steps = script_of(cave, list(cave))
            for _ in range(3):
                at = chance.randint(0, len(steps))
                room = chance.choice(chance.choice(cave))
                self.check(cave, steps[:at] + [("set", room)] + steps[at:])
                self.check(cave, steps[:at] + [("set", room), ("take", room)] + steps[at:])

    def test_no_steps(self):
        for cave in CAVES:
            self.assertEqual(self.call(needless, cave, []), [])
            self.assertIs(self.call(first_foul, cave, []), None)
            self.is_bool(True, self.call(alike, cave, [], []))

    def test_without_which_there_is_no_script(self):
        self.assertEqual(needless(ONE, [("set", 0), ("take", 0)]), [1])
        self.assertEqual(needless(ONE, [("set", 0), ("set", 0), ("take", 0)]), [0, 1, 2])
        self.assertEqual(needless(STAR, [("set", 1), ("lead", 1, 0), ("lead", 0, 2)]), [2])
        self.assertEqual(needless(PATH, [("set", 0), ("lead", 0, 1), ("lead", 1, 2)]), [])
        # Of two who are there, one is needed to go after the other is gone.
        self.assertEqual(needless(PATH, [("set", 0), ("set", 0), ("lead", 0, 1), ("take", 1), ("lead", 0, 1)]), [3])

    def test_as_many_other_ways(self):
        # Without a step other ways are foul in the end, but no more of them.
        steps = [("set", 0), ("set", 1), ("lead", 0, 1)]
        self.assertEqual(needless(PATH, steps), plain_needless(PATH, steps))
        steps = [("set", 1), ("set", 1), ("set", 1), ("lead", 1, 0), ("lead", 1, 2)]
        self.assertEqual(left_by(PATH, steps)[1], [])
        self.assertEqual(needless(PATH, steps), [0, 1, 2])
        steps = [("set", 0)] * 3 + [("lead", 0, 1), ("lead", 0, 2), ("take", 2), ("set", 3)]
        self.check(STAR, steps)

    def test_each_take_can_be_left_out(self):
        for cave, steps in some_scripts(234, 60, 15):
            found = needless(cave, steps)
            self.assertLessEqual({at for at, step in enumerate(steps) if step[0] == "take"}, set(found))

    def test_first_foul(self):
        line = path_of(4)
        steps = [("set", 0)] + [("lead", room, room + 1) for room in range(3)]
        self.assertIs(self.call(first_foul, line, steps), None)
        # Several ways become foul at once.
        self.assertEqual(self.call(first_foul, line, steps + [("take", 3)]), 4)
        self.assertEqual(first_foul(line, steps + [("lead", 3, 2)]), 4)
        self.assertEqual(first_foul(line, steps + [("set", 4), ("lead", 3, 2), ("take", 4)]), 5)
        # A way that was foul ahead of the lead along it is not fouled by it.
        self.assertIs(first_foul(RING, [("set", 0), ("lead", 0, 1), ("lead", 1, 2)]), None)
        self.assertEqual(first_foul(RING, [("set", 0), ("set", 0), ("lead", 0, 1), ("lead", 1, 2), ("take", 0)]), 4)
        # A way that was clean ahead of the lead along it is fouled behind it.
        steps = [("set", 0), ("lead", 0, 1), ("lead", 1, 0), ("lead", 0, 1)]
        self.assertEqual(first_foul(PATH, steps), 2)
        self.assertEqual(first_foul(PATH, [("set", 1), ("set", 1), ("lead", 1, 0), ("lead", 0, 1), ("take", 1)]), None)
        self.assertEqual(first_foul(PATH, [("set", 1), ("set", 1), ("lead", 1, 0), ("take", 1)]), 3)
        self.assertEqual(first_foul(ONE, [("set", 0), ("lead", 0, 1), ("take", 1), ("set", 0), ("take", 0)]), None)

    def test_only_the_led_way_fouled(self):
        # The way is clean, and the lead along it lets it, and it alone, become foul.
        steps = [("set", 1), ("set", 1), ("lead", 1, 0), ("lead", 0, 1), ("lead", 1, 0)]
        self.assertIs(first_foul(PATH, steps), None)
        steps += [("lead", 1, 0)]
        self.assertEqual(left_by(PATH, steps[:-1]), ([0, 1], [(1, 2)]))
        self.assertEqual(left_by(PATH, steps), ([0, 0], [(0, 1), (1, 2)]))
        self.assertEqual(self.call(first_foul, PATH, steps), 5)

    def test_alike(self):
        chance = seeded(235)
        alike_ones = 0
        for cave, steps in some_scripts(236, 150, 5):
            others = [random_steps(chance, cave, chance.randint(1, 4)), steps[:-1], steps[::1], steps + [("set", cave[0][0])]]
            for other in others:
                worth = plain_states(cave, steps)[-1] == plain_states(cave, other)[-1]
                self.is_bool(worth, self.call(alike, cave, steps, other), (cave, steps, other))
                self.is_bool(worth, alike(cave, other, steps))
                alike_ones += worth
        self.assertGreater(alike_ones, 150)

    def test_alike_in_one_only(self):
        self.is_bool(False, alike(PATH, [("set", 0)], [("set", 1)]))
        self.is_bool(False, alike(PATH, [("set", 0)], [("set", 0), ("set", 0)]))
        self.is_bool(False, alike(PATH, [("set", 1)], [("set", 0), ("lead", 0, 1)]))
        self.is_bool(True, alike(PATH, [("set", 1)], [("set", 0), ("lead", 0, 1), ("lead", 1, 0), ("lead", 0, 1), ("take", 1), ("set", 1)]))
        self.is_bool(True, alike(PATH, [], [("set", 0), ("take", 0)]))

    def test_long_scripts(self):
        self.assertEqual(needless(PATH, [("set", 0)] * 5000), list(range(5000)))
        steps = [("set", 0), ("set", 1)] + [("lead", 0, 1), ("lead", 1, 0), ("lead", 1, 2), ("lead", 2, 1)] * 1500
        self.check(PATH, steps[:14])
        self.assertEqual((needless(PATH, steps[:14]), needless(PATH, steps)), ([11, 13], [5999, 6001]))
        self.assertEqual(first_foul(PATH, steps + [("take", 0), ("take", 1)]), None)
        steps = [("set", 0)] * 100 + [("lead", 0, room) for room in range(1, 100)]
        # One who is left at room 0 is not needed, but each way has to be gone along.
        self.assertEqual(needless(GREAT, steps), list(range(100)))
        self.assertIs(first_foul(GREAT, steps), None)
        self.assertEqual(first_foul(GREAT, steps + [("lead", 7, 0)]), 199)

    def test_no_caves(self):
        for thing in NO_CAVES:
            self.raises(InvalidCave, needless, thing, [])
            self.raises(InvalidCave, first_foul, thing, [])
            self.raises(InvalidCave, alike, thing, [], [])

    def test_no_scripts(self):
        for thing in NO_SCRIPTS:
            self.raises(InvalidScript, needless, STAR, thing)
            self.raises(InvalidScript, first_foul, STAR, thing)
            self.raises(InvalidScript, alike, STAR, thing, [])
            self.raises(InvalidScript, alike, STAR, [], thing)
            self.raises(InvalidScript, alike, STAR, thing, thing)

    def test_the_first_error(self):
        for cave in NO_CAVES[::9]:
            for steps in NO_SCRIPTS[::9]:
                self.raises(InvalidCave, needless, cave, steps)
                self.raises(InvalidCave, first_foul, cave, steps)
                self.raises(InvalidCave, alike, cave, steps, steps)


if __name__ == "__main__":
    unittest.main()
