"""[5], [15]: hidings."""

import itertools
import unittest

from cavesweep import hidings
from cavesweep.errors import InvalidCave, InvalidScript
from cavesweep.hidings import hiding, is_hiding
from cavesweep.scripts import is_sure
from cavesweep.sweeps import script_of
from support import CAVES, GREAT, NO_CAVES, NO_SCRIPTS, ONE, PARTS, PATH, RING, STAR, THINGS
from support import Case, Plain, plain_states, random_steps, seeded, way_of


def along(cave, way, searchers):
    """All ways to which one comes from a way through rooms without searchers."""
    found = {way}
    while True:
        rooms = {room for one in found for room in one} - set(searchers)
        more = {other for other in cave if set(other) & rooms}
        if more <= found:
            return found
        found |= more


def plain_is_hiding(cave, steps, ways):
    """The rules of [5] for a list of ways of the cave, told anew."""
    if len(ways) != len(steps) + 1:
        return False
    states = plain_states(cave, steps)
    for at, step in enumerate(steps):
        if step[0] == "lead" and way_of(step) == ways[at]:
            return False
        if ways[at + 1] not in along(cave, ways[at], states[at + 1][0]):
            return False
    return True


def all_scripts(cave, many):
    """All scripts of at most so many steps."""
    found = [[]]
    for steps in found:
        if len(steps) < many:
            play = Plain(cave)
            for step in steps:
                play.go(step)
            found.extend([steps + [step] for step in play.all_steps()])
    return found


def all_lists(cave, many):
    return [list(ways) for ways in itertools.product(cave, repeat=many)]


class Hidings(Case):
    def test_interface(self):
        self.interface(hidings, hiding="cave steps", is_hiding="cave steps thing")

    def test_examples(self):
        steps = [("set", 1), ("lead", 1, 2)]
        self.assertEqual(
            (is_hiding(PATH, steps, hiding(PATH, steps)), is_hiding(PATH, steps, [(0, 1), (1, 2), (0, 1)])), (True, False))
        self.assertIs(hiding(PATH, [("set", 0), ("lead", 0, 1), ("lead", 1, 2)]), None)

    def check_hiding(self, cave, steps):
        found = self.call(hiding, cave, steps)
        if found is None:
            self.assertEqual(plain_states(cave, steps)[-1][1], [])
            self.assertTrue(is_sure(cave, steps))
            return
        self.assertIs(type(found), list)
        self.assertTrue(all(type(way) is tuple and way in cave for way in found))
        self.assertTrue(plain_is_hiding(cave, steps, found), (cave, steps, found))
        self.assertTrue(plain_states(cave, steps)[-1][1])
        self.is_bool(True, self.call(is_hiding, cave, steps, found))

    def test_no_steps(self):
        for cave in CAVES:
            self.check_hiding(cave, [])
            for way in cave:
                self.is_bool(True, self.call(is_hiding, cave, [], [way]))
            self.is_bool(False, is_hiding(cave, [], []))
            self.is_bool(False, is_hiding(cave, [], [cave[0]] * 2))

    def test_random_scripts(self):
        chance = seeded(151)
        for cave in CAVES * 15:
            self.check_hiding(cave, random_steps(chance, cave, chance.randint(1, 40), chance.randint(0, 12)))

    def test_all_short_scripts_of_small_caves(self):
        for cave in (ONE, PATH, RING, ((0, 1), (2, 3))):
            for steps in all_scripts(cave, 3):
                self.check_hiding(cave, steps)

    def test_all_lists_of_ways(self):
        chance = seeded(152)
        for cave in (PATH, STAR, RING, ((0, 1), (2, 3)), ((0, 1), (1, 2), (2, 3))):
            for _ in range(25):
                steps = random_steps(chance, cave, 4)
                for ways in all_lists(cave, 5):
                    self.is_bool(plain_is_hiding(cave, steps, ways), is_hiding(cave, steps, ways), (cave, steps, ways))

    def test_hidings_a_little_changed(self):
        chance = seeded(153)
        for cave in CAVES * 8:
            steps = random_steps(chance, cave, chance.randint(1, 12), 1)
            found = hiding(cave, steps)
            if found is not None:
                for at in range(len(found)):
                    for way in cave:
                        ways = found[:at] + [way] + found[at + 1:]
                        self.is_bool(plain_is_hiding(cave, steps, ways), is_hiding(cave, steps, ways), (cave, steps, ways))

    def test_a_script_that_is_nearly_sure(self):
        for cave in CAVES:
            steps = script_of(cave, list(cave))
            self.assertIs(self.call(hiding, cave, steps), None)
            self.is_bool(False, is_hiding(cave, steps, [cave[0]] * (len(steps) + 1)))
            last = max(at for at, step in enumerate(steps) if step[0] == "lead")
            self.check_hiding(cave, steps[:last])
            self.assertIsNot(hiding(cave, steps[:last]), None)

    def test_on_the_way_of_a_lead_behind_it(self):
        # The way is met ahead of the lead, but one comes there again behind the searcher.
        steps = [("set", 1), ("lead", 1, 2)]
        self.is_bool(True, is_hiding(PATH, steps, [(0, 1), (0, 1), (1, 2)]))
        self.is_bool(False, is_hiding(PATH, steps, [(0, 1), (1, 2), (1, 2)]))
        self.is_bool(False, is_hiding(PATH, steps, [(1, 2), (0, 1), (1, 2)]))

    def test_searchers_behind_the_step_are_meant(self):
        steps = [("set", 1), ("take", 1)]
        self.is_bool(True, is_hiding(PATH, steps, [(0, 1), (0, 1), (1, 2)]))
        self.is_bool(False, is_hiding(PATH, steps, [(0, 1), (1, 2), (1, 2)]))
        # Two searchers were at the room: one is left there.
        steps = [("set", 1), ("set", 1), ("take", 1)]
        self.is_bool(False, is_hiding(PATH, steps, [(0, 1), (0, 1), (0, 1), (1, 2)]))

    def test_clean_ways_can_be_gone_along(self):
        line = ((0, 1), (1, 2), (2, 3))
        steps = [("set", 2), ("lead", 2, 1), ("take", 1)]
        self.is_bool(True, is_hiding(line, steps, [(0, 1), (0, 1), (0, 1), (2, 3)]))
        self.is_bool(True, is_hiding(line, steps, [(2, 3), (2, 3), (1, 2), (0, 1)]))

    def test_not_between_parts(self):
        self.is_bool(False, is_hiding(PARTS, [("set", 9)], [(0, 7), (3, 9)]))
        self.is_bool(True, is_hiding(PARTS, [("set", 9)], [(0, 7), (7, 8)]))

    def test_things_that_are_none(self):
        steps = [("set", 1)]
        for thing in THINGS:
            self.is_bool(False, self.call(is_hiding, PATH, steps, thing), thing)
        equal = [
            ((0, 1), (0, 1)), [[0, 1], (0, 1)], [(0, 1), [0, 1]], [(False, 1), (0, 1)], [(0, 1), (0, True)], [(1, 0), (0, 1)],
            [(0, 1), (1, 0)], [(0, 1), (0, 2)], [(0, 1), None], [(0, 1), ()], [(0, 1), (0, 1), (0, 1)], [(0, 1)], [(0, 1), 1],
            [(0, 1), {0: 1}], [(0, 1), (0, [1])], [(0, 1), "0-1"], {0: (0, 1), 1: (0, 1)}, [[(0, 1), (0, 1)]],
        ]
        for thing in equal:
            self.is_bool(False, self.call(is_hiding, PATH, steps, thing), thing)
        self.is_bool(True, self.call(is_hiding, PATH, steps, [(0, 1), (0, 1)]))

    def test_no_caves(self):
        for thing in NO_CAVES:
            self.raises(InvalidCave, hiding, thing, [])
            self.raises(InvalidCave, is_hiding, thing, [], [(0, 1)])

    def test_no_scripts(self):
        for steps in NO_SCRIPTS:
            self.raises(InvalidScript, hiding, STAR, steps)
            self.raises(InvalidScript, is_hiding, STAR, steps, [(0, 1)])
            self.raises(InvalidScript, is_hiding, STAR, steps, None)

    def test_the_first_error(self):
        for cave in NO_CAVES[::7]:
            for steps in NO_SCRIPTS[::7]:
                self.raises(InvalidCave, hiding, cave, steps)
                self.raises(InvalidCave, is_hiding, cave, steps, 0)

    def test_great_caves_and_long_scripts(self):
        steps = script_of(GREAT, list(GREAT))
        self.assertIs(hiding(GREAT, steps), None)
        steps = steps[:6000]
        ways = hiding(GREAT, steps)
        self.is_bool(True, is_hiding(GREAT, steps, ways))
        self.is_bool(False, is_hiding(GREAT, steps, [ways[-1]] * 5999 + [(0, 1)] * 2))
        # Somebody runs to and fro across the great cave at each step.
        steps = [("set", 0)] * 6000
        self.is_bool(True, is_hiding(GREAT, steps, [(0, 1), (97, 98)] * 3000 + [(0, 1)]))


if __name__ == "__main__":
    unittest.main()
