"""[28]: scripts of lamps."""

import unittest

from cavesweep import lamps as module
from cavesweep.errors import InvalidCave, InvalidScript
from cavesweep.lamps import can_light, first_dark, is_lit, lamps_used, lit_by
from cavesweep.rooms import least_breadth
from support import CAVES, FAR, FULL, GREAT, NO_CAVES, NO_SCRIPTS, ONE, PARTS, PATH, RING, STAR, THINGS
from support import Case, Plain, path_of, plain_first_foul, plain_states, plain_sure_with, plain_uses, random_cave, random_steps, seeded, star_of
from support import told, without

EXAMPLES = """
>>> from cavesweep.lamps import can_light, first_dark, is_lit, lamps_used, lit_by
>>> path, steps = ((0, 1), (1, 2)), [('set', 0), ('set', 1)]
>>> lit_by(path, steps), can_light(path, steps, ('lead', 1, 2)), can_light(path, steps, ('take', 1))
(([0, 1], [(1, 2)]), False, True)
>>> is_lit(path, steps + [('take', 0), ('set', 2)]), lamps_used(path, steps + [('take', 0), ('set', 2)])
(True, 2)
>>> lit_by(path, steps + [('take', 1)]), first_dark(path, steps + [('take', 1)])
(([0], [(0, 1), (1, 2)]), 2)
"""

NO_LIT_SCRIPTS = NO_SCRIPTS + [[("set", 1), ("lead", 1, 0)], [("set", 0), ("set", 1), ("lead", 0, 1)]]


def some_scripts(seed, many, most):
    """Drawn scripts of lamps of many caves."""
    chance = seeded(seed)
    for _ in range(many):
        cave = chance.choice(CAVES + [random_cave(chance, chance.randint(1, 9))])
        yield cave, drawn_steps(chance, cave, chance.randint(0, most))


def drawn_steps(chance, cave, many):
    """A script of lamps of so many steps that takes up as often as it sets."""
    play = Plain(cave, "lamps")
    steps = []
    for _ in range(many):
        able = play.all_steps()
        takes = [step for step in able if step[0] == "take"]
        step = chance.choice(takes if takes and chance.random() < 0.4 else able)
        play.go(step)
        steps.append(step)
    return steps


class Lamps(Case):
    def test_interface(self):
        self.interface(
            module, can_light="cave steps step", lit_by="cave steps", lamps_used="cave steps", is_lit="cave steps", first_dark="cave steps")

    def test_examples(self):
        self.has_examples(module, EXAMPLES)

    def check(self, cave, steps):
        searchers, foul = plain_states(cave, steps, "lamps")[-1]
        answer = self.call(lit_by, cave, steps)
        self.assertEqual(told(answer), told((searchers, foul)), (cave, steps))
        self.is_bool(not foul, self.call(is_lit, cave, steps), (cave, steps))
        many = self.call(lamps_used, cave, steps)
        self.assertEqual(told(many), told(plain_uses(cave, steps, "lamps")))
        self.assertEqual(told(self.call(first_dark, cave, steps)), told(plain_first_foul(cave, steps, "lamps")), (cave, steps))

    def test_drawn_scripts(self):
        for cave, steps in some_scripts(281, 400, 24):
            self.check(cave, steps)

    def test_every_beginning_of_longer_scripts(self):
        for cave, steps in some_scripts(282, 12, 40):
            for at in range(len(steps)):
                self.check(cave, steps[:at])

    def test_the_scripts_are_of_all_kinds(self):
        sure = dark = both = 0
        for cave, steps in some_scripts(281, 400, 24):
            sure += is_lit(cave, steps)
            dark += first_dark(cave, steps) is not None
            both += is_lit(cave, steps) and first_dark(cave, steps) is not None
        self.assertTrue(min(sure, dark, both) > 5, (sure, dark, both))

    def test_steps_that_can_be(self):
        chance = seeded(283)
        for cave, steps in some_scripts(284, 60, 12):
            play = Plain(cave, "lamps")
            for step in steps:
                play.go(step)
            rooms = sorted(play.rooms) + [0, 1, 50, 100, -1]
            for _ in range(12):
                word, room, other = chance.choice(("set", "take", "lead")), chance.choice(rooms), chance.choice(rooms)
                for step in ((word, room), (word, room, other)):
                    self.is_bool(play.can(step), self.call(can_light, cave, steps, step), (cave, steps, step))
            for step in play.all_steps():
                self.is_bool(True, can_light(cave, steps, step))

    def test_nobody_is_led(self):
        for cave in CAVES:
            room, other = cave[0]
            for steps in ([("set", room)], [("set", room), ("set", other)]):
                self.is_bool(False, self.call(can_light, cave, steps, ("lead", room, other)))
                self.is_bool(False, can_light(cave, steps, ("lead", other, room)))
                for function in (lit_by, lamps_used, is_lit, first_dark):
                    self.raises(InvalidScript, function, cave, steps + [("lead", room, other)])

    def test_no_steps(self):
        for cave in CAVES + [GREAT]:
            self.assertEqual(told(self.call(lit_by, cave, [])), told(([], list(cave))))
            self.assertEqual(told((lamps_used(cave, []), is_lit(cave, []), first_dark(cave, []))), told((0, False, None)))

    def test_all_rooms_first(self):
        for cave in CAVES:
            rooms = sorted({room for way in cave for room in way})
            steps = [("set", room) for room in rooms]
            self.check(cave, steps)
            self.assertTrue(is_lit(cave, steps))
            self.assertEqual(lamps_used(cave, steps), len(rooms))
            # Where all is clean, nobody is left who could make a way foul.
            steps += [("take", room) for room in rooms]
            self.check(cave, steps)
            self.assertEqual(told(lit_by(cave, steps)), told(([], [])))
            self.assertIs(first_dark(cave, steps), None)

    def test_two_at_one_room(self):
        steps = [("set", 0), ("set", 0), ("set", 1)]
        self.assertEqual(lit_by(PATH, steps), ([0, 0, 1], [(1, 2)]))
        self.assertEqual(lit_by(PATH, steps + [("take", 0)]), ([0, 1], [(1, 2)]))
        self.assertEqual(lit_by(PATH, [("set", 1), ("set", 1), ("set", 0), ("take", 1)]), ([0, 1], [(1, 2)]))
        self.assertEqual(lit_by(ONE, [("set", 0), ("set", 0)]), ([0, 0], [(0, 1)]))
        self.assertEqual(lamps_used(ONE, [("set", 0), ("set", 0), ("take", 0), ("take", 0), ("set", 1)]), 2)

    def test_the_first_step_that_fouls(self):
        line = path_of(4)
        steps = [("set", 0), ("set", 1), ("take", 0), ("set", 2), ("take", 1)]
        self.assertIs(self.call(first_dark, line, steps), None)
        # Several ways become foul at once, and again later.
        self.assertEqual(first_dark(line, steps + [("take", 2), ("set", 0), ("set", 1), ("take", 1)]), 5)
        self.assertEqual(lit_by(line, steps + [("take", 2)]), ([], list(line)))
        # A step behind which all is foul fouls nothing where nothing was clean.
        self.assertIs(first_dark(line, [("set", 0), ("take", 0), ("set", 2), ("take", 2)]), None)
        # A way that is lit and foul again counts as soon as it is foul.
        self.assertEqual(first_dark(RING, [("set", 0), ("set", 1), ("take", 1), ("set", 1), ("take", 0)]), 2)
        self.assertEqual(first_dark(STAR, [("set", 0), ("set", 1), ("take", 1), ("set", 2), ("take", 0)]), 4)

    def test_the_far_side_stays_lit(self):
        # The way between two who stay is clean, whatever becomes foul around them.
        steps = [("set", 0), ("set", 1), ("set", 2), ("take", 2)]
        self.assertEqual(lit_by(RING, steps[:3]), ([0, 1, 2], []))
        self.assertEqual(lit_by(RING, steps), ([0, 1], []))
        steps = [("set", 0), ("set", 1), ("set", 2), ("take", 2)]
        self.assertEqual(lit_by(FULL, steps), ([0, 1], [way for way in FULL if way != (0, 1)]))
        self.assertEqual(first_dark(FULL, steps), 3)

    def test_least_number_by_all_states(self):
        for cave in (ONE, PATH, STAR, RING, PARTS, FULL, path_of(4), star_of(4), ((0, 1), (2, 3)), ((0, 1), (0, 2), (1, 2), (2, 3))):
            many = least_breadth(cave) + 1
            self.assertTrue(plain_sure_with(cave, many, "lamps"), cave)
            self.assertFalse(plain_sure_with(cave, many - 1, "lamps"), cave)

    def test_objects_that_are_no_steps(self):
        for thing in without(THINGS, ("set", 0)):
            self.is_bool(False, self.call(can_light, STAR, [("set", 0)], thing), thing)
        wrong = [
            ["set", 0], ("set", 0, 0), ("set",), ("set", False), ("set", True), ("set", "0"), ("set", 4), ("set", (0,)), ("take", 1),
            ("take", False), ("take", [0]), ("take", {}), ("lead", 0, 1), ("lead", 0), ("put", 0), (None, 0), ([], 0), ({}, 0), ("set", -1),
            ("set", 10 ** 39), ("take", 10 ** 39), ("Set", 0), (("set", 0),), ("lead", [], {}), ("set", [0], 0),
        ]
        for thing in wrong:
            self.is_bool(False, self.call(can_light, STAR, [("set", 0)], thing), thing)
        self.is_bool(True, can_light(FAR, [], ("set", 99)))
        self.is_bool(False, can_light(FAR, [], ("set", 1)))

    def test_no_scripts(self):
        for thing in NO_LIT_SCRIPTS:
            for function in (lit_by, lamps_used, is_lit, first_dark):
                self.raises(InvalidScript, function, STAR, thing)
            self.raises(InvalidScript, can_light, STAR, thing, ("set", 0))
            self.raises(InvalidScript, can_light, STAR, thing, None)

    def test_no_caves(self):
        for thing in NO_CAVES:
            for function in (lit_by, lamps_used, is_lit, first_dark):
                self.raises(InvalidCave, function, thing, [])
            self.raises(InvalidCave, can_light, thing, [], ("set", 0))

    def test_the_first_error(self):
        for cave in NO_CAVES[::6]:
            for thing in NO_LIT_SCRIPTS[::9]:
                for function in (lit_by, lamps_used, is_lit, first_dark):
                    self.raises(InvalidCave, function, cave, thing)
                self.raises(InvalidCave, can_light, cave, thing, thing)

    def test_long_scripts(self):
        steps = [("set", 0), ("set", 1)] + [("take", 0), ("set", 2), ("take", 2), ("set", 0)] * 1500
        self.assertEqual(told(lit_by(PATH, steps)), told(([0, 1], [])))
        self.assertEqual((lamps_used(PATH, steps), first_dark(PATH, steps)), (2, None))
        self.assertEqual(first_dark(PATH, steps + [("take", 0), ("take", 1), ("set", 0)]), None)
        self.assertEqual(lamps_used(STAR, [("set", 1)] * 3000), 3000)
        self.assertEqual(first_dark(GREAT, [("set", 0), ("set", 1), ("set", 2), ("take", 1)]), 3)

    def test_random_steps_of_the_other_manner(self):
        # What leads somebody is refused at its place, and not before it.
        chance = seeded(285)
        for cave in CAVES:
            steps = random_steps(chance, cave, 12, 1)
            ahead = next((at for at, step in enumerate(steps) if step[0] == "lead"), len(steps))
            self.check(cave, steps[:ahead])
            if ahead < len(steps):
                self.is_bool(False, can_light(cave, steps[:ahead], steps[ahead]))
                self.raises(InvalidScript, lit_by, cave, steps)


if __name__ == "__main__":
    unittest.main()
