"""[4], [14]: scripts, what they leave, what they use."""

import unittest

from cavesweep import scripts
from cavesweep.errors import InvalidCave, InvalidScript
from cavesweep.scripts import can_be, is_sure, jumps, left_by, uses
from support import CAVES, FAR, GREAT, NO_CAVES, NO_SCRIPTS, ONE, PARTS, PATH, RING, STAR, THINGS
from support import Case, Plain, plain_states, random_steps, seeded, without


class Scripts(Case):
    def test_interface(self):
        self.interface(
            scripts, can_be="cave steps step", left_by="cave steps", uses="cave steps", is_sure="cave steps",
            jumps="cave steps")

    def test_examples(self):
        steps = [("set", 0), ("set", 1), ("lead", 1, 0), ("lead", 0, 2)]
        self.assertEqual(
            (left_by(STAR, steps), uses(STAR, steps), is_sure(STAR, steps), jumps(STAR, steps)),
            (([0, 2], [(0, 3)]), 2, False, False))
        self.assertEqual(
            (can_be(STAR, steps, ("lead", 2, 3)), can_be(STAR, steps, ("take", 0)), left_by(STAR, steps + [("take", 0)])),
            (False, True, ([2], [(0, 1), (0, 2), (0, 3)])))

    def test_no_steps(self):
        for cave in CAVES:
            self.assertEqual(self.call(left_by, cave, []), ([], list(cave)))
            self.assertEqual(self.call(uses, cave, []), 0)
            self.is_bool(False, self.call(is_sure, cave, []))
            self.is_bool(False, self.call(jumps, cave, []))

    def test_like_the_plain_rules(self):
        chance = seeded(14)
        for cave in CAVES * 12:
            steps = random_steps(chance, cave, chance.randint(1, 40), chance.randint(0, 8))
            states = plain_states(cave, steps)
            self.assertEqual(self.call(left_by, cave, steps), states[-1])
            self.assertEqual(self.call(uses, cave, steps), max(len(searchers) for searchers, _ in states))
            self.is_bool(not states[-1][1], self.call(is_sure, cave, steps))

    def test_what_can_be_like_the_plain_rules(self):
        chance = seeded(15)
        for cave in CAVES * 3:
            steps = random_steps(chance, cave, chance.randint(0, 6))
            play = Plain(cave)
            for step in steps:
                play.go(step)
            rooms = range(-1, 14)
            some = [("set", room) for room in rooms] + [("take", room) for room in rooms]
            some += [("lead", room, other) for room in rooms for other in rooms]
            for step in some:
                self.is_bool(play.can(step), can_be(cave, steps, step), (cave, steps, step))

    def test_any_object_is_asked(self):
        steps = [("set", 0), ("set", 1)]
        for thing in without(THINGS, ("set", 0)):
            self.is_bool(False, self.call(can_be, STAR, steps, thing), thing)
        wrong = [one for thing in NO_SCRIPTS if isinstance(thing, list) and len(thing) == 1 for one in thing]
        for step in without(wrong, ("take", 0), ("lead", 0, 1)):
            self.is_bool(False, self.call(can_be, STAR, steps, step), step)
        for step in (["set", 0], ("set", False), ("take", True), ("lead", True, 0), ("lead", 1, False), ["lead", 1, 0]):
            self.is_bool(False, self.call(can_be, STAR, steps, step), step)
        for step in (("set", 0), ("set", 3), ("take", 0), ("take", 1), ("lead", 0, 1), ("lead", 1, 0), ("lead", 0, 3)):
            self.is_bool(True, self.call(can_be, STAR, steps, step), step)

    def test_both_ends_of_the_rooms(self):
        steps = [("set", 0), ("lead", 0, 99), ("lead", 99, 0)]
        self.assertEqual(self.call(left_by, FAR, steps), ([0], []))
        self.is_bool(True, can_be(FAR, steps, ("set", 99)))
        self.is_bool(False, can_be(FAR, steps, ("set", 1)))

    def test_two_at_one_room(self):
        steps = [("set", 0), ("set", 0), ("lead", 0, 1)]
        self.assertEqual(self.call(left_by, STAR, steps), ([0, 1], [(0, 2), (0, 3)]))
        self.assertEqual(left_by(STAR, steps[:2]), ([0, 0], list(STAR)))
        self.assertEqual(left_by(STAR, steps + [("lead", 1, 0)]), ([0, 0], [(0, 2), (0, 3)]))
        self.assertEqual(left_by(STAR, steps + [("lead", 1, 0), ("take", 0)]), ([0], [(0, 2), (0, 3)]))
        self.assertEqual(uses(STAR, steps + [("take", 0), ("set", 3)]), 2)

    def test_foul_through_several_rooms_at_once(self):
        line = tuple((n, n + 1) for n in range(6))
        steps = [("set", 0)] + [("lead", n, n + 1) for n in range(5)]
        self.assertEqual(left_by(line, steps), ([5], [(5, 6)]))
        self.assertEqual(left_by(line, steps + [("take", 5)]), ([], list(line)))
        # A searcher on the way stops it.
        steps = [("set", 2)] + steps
        self.assertEqual(self.call(left_by, line, steps + [("take", 5)]), ([2], [(2, 3), (3, 4), (4, 5), (5, 6)]))

    def test_foul_round_a_ring(self):
        steps = [("set", 0), ("set", 0), ("lead", 0, 1), ("lead", 1, 2)]
        self.assertEqual(left_by(RING, steps), ([0, 2], [(0, 2)]))
        self.assertEqual(left_by(RING, steps + [("take", 0)]), ([2], list(RING)))
        self.assertEqual(left_by(RING, steps + [("lead", 2, 0)]), ([0, 0], []))
        # Going from a room with a foul way the searcher leaves the way behind foul.
        self.assertEqual(left_by(RING, [("set", 0), ("lead", 0, 1)]), ([1], list(RING)))

    def test_led_way_becomes_foul_behind(self):
        self.assertEqual(left_by(PATH, [("set", 1), ("lead", 1, 2)]), ([2], list(PATH)))
        self.assertEqual(left_by(PATH, [("set", 0), ("lead", 0, 1)]), ([1], [(1, 2)]))
        self.assertEqual(left_by(PATH, [("set", 0), ("lead", 0, 1), ("lead", 1, 0)]), ([0], list(PATH)))

    def test_parts_do_not_matter_to_one_another(self):
        steps = [("set", 3), ("lead", 3, 9)]
        self.assertEqual(left_by(PARTS, steps), ([9], [(0, 7), (7, 8)]))
        self.assertEqual(left_by(PARTS, steps + [("take", 9)]), ([], [(0, 7), (7, 8)]))
        steps += [("take", 9), ("set", 0), ("lead", 0, 7), ("lead", 7, 8)]
        self.is_bool(True, is_sure(PARTS, steps))
        self.assertEqual(uses(PARTS, steps), 1)

    def test_uses_counts_those_at_once(self):
        self.assertEqual(self.call(uses, ONE, [("set", 0), ("take", 0)] * 5), 1)
        self.assertEqual(self.call(uses, ONE, [("set", 0)] * 7 + [("take", 0)] * 7 + [("set", 1)]), 7)

    def test_jumps(self):
        lead, back = ("lead", 0, 1), ("lead", 1, 0)
        for steps in ([("set", 0)], [("set", 0), ("set", 1)], [("set", 0), lead, back], [("set", 0), ("set", 0), lead, lead]):
            self.is_bool(False, self.call(jumps, ONE, steps), steps)
        some = [
            [("set", 0), ("take", 0)], [("set", 0), lead, ("set", 0)], [("set", 0), lead, ("take", 1)],
            [("set", 0), lead, back, ("set", 1), lead], [("set", 0), ("take", 0), ("set", 0)],
            [("set", 0), ("set", 1), ("take", 1), lead], [("set", 0), lead, back, lead, ("set", 1), ("set", 1)],
        ]
        for steps in some:
            self.is_bool(True, self.call(jumps, ONE, steps), steps)

    def test_sure(self):
        self.is_bool(True, self.call(is_sure, ONE, [("set", 0), ("lead", 0, 1)]))
        self.is_bool(True, self.call(is_sure, PATH, [("set", 0), ("lead", 0, 1), ("lead", 1, 2), ("take", 2)]))
        self.is_bool(False, self.call(is_sure, PATH, [("set", 0), ("set", 1), ("set", 2)]))

    def test_no_caves(self):
        for thing in NO_CAVES:
            self.raises(InvalidCave, can_be, thing, [], ("set", 0))
            for function in (left_by, uses, is_sure, jumps):
                self.raises(InvalidCave, function, thing, [])

    def test_no_scripts(self):
        for steps in NO_SCRIPTS:
            self.raises(InvalidScript, can_be, STAR, steps, ("set", 0))
            for function in (left_by, uses, is_sure, jumps):
                self.raises(InvalidScript, function, STAR, steps)

    def test_the_first_error(self):
        for cave in NO_CAVES[::7]:
            for steps in NO_SCRIPTS[::7]:
                self.raises(InvalidCave, can_be, cave, steps, None)
                for function in (left_by, uses, is_sure, jumps):
                    self.raises(InvalidCave, function, cave, steps)

    def test_great_caves_and_long_scripts(self):
        steps = [("set", 0)] * 100 + [("lead", 0, room) for room in range(1, 100)]
        searchers, foul = left_by(GREAT, steps)
        self.assertEqual((searchers, len(foul)), (list(range(100)), 4851))
        # Each room that is left again makes its way foul.
        self.assertEqual(left_by(GREAT, steps + [("lead", 7, 0)])[1][:2], [(0, 7), (1, 2)])
        steps += [("lead", room, 0) for room in range(1, 100)]
        self.assertEqual(left_by(GREAT, steps), ([0] * 100, list(GREAT)))
        steps = [("set", 0)] + [("lead", 0, 1), ("lead", 1, 0)] * 3300
        self.assertEqual(left_by(GREAT, steps), ([0], list(GREAT)))


if __name__ == "__main__":
    unittest.main()
