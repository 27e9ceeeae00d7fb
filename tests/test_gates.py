"""[33]: scripts that come in by a gate."""

import itertools
import unittest

from cavesweep import gates as module
from cavesweep.errors import InvalidCave, InvalidNumber, InvalidRoom
from cavesweep.gates import best_gates, comes_in, least_from, script_from
from cavesweep.least import least
from cavesweep.scripts import is_sure, left_by, uses
from support import CAVES, FAR, FULL, GREAT, NO_CAVES, NO_NUMBERS, NO_SCRIPTS, ONE, PARTS, PATH, RING, STAR, THINGS
from support import Case, Plain, at_state, is_plain_script, path_of, plain_states, random_cave, random_steps, rooms_in, seeded, star_of, told
from support import without

# The examples of [33] but for what they say of a script of one searcher from the middle of the
# path: see test_from_the_middle_of_a_path.
EXAMPLES = """
>>> from cavesweep.gates import best_gates, comes_in, least_from, script_from
>>> path, star = ((0, 1), (1, 2)), ((0, 1), (0, 2), (0, 3))
>>> comes_in(path, 1, [('set', 1), ('set', 1), ('lead', 1, 0)]), comes_in(path, 1, [('set', 0)])
(True, False)
>>> [least_from(path, room) for room in (0, 2)], [least_from(star, room) for room in (0, 1)]
([1, 1], [2, 2])
>>> script_from(path, 2, 1), len(script_from(path, 1, 2))
([('set', 2), ('lead', 2, 1), ('lead', 1, 0)], 4)
>>> best_gates(((0, 1), (2, 3)))
[]
"""

# Caves of all shapes with up to five ways.
SHAPES = [
    ONE, FAR, PATH, STAR, RING, path_of(3), path_of(4), path_of(5), star_of(4), star_of(5), RING + ((2, 3),), RING + ((2, 3), (3, 4)),
    ((0, 1), (0, 3), (1, 2), (2, 3)), ((0, 1), (0, 2), (0, 3), (1, 2), (1, 3)), ((0, 1), (0, 2), (0, 3), (1, 4)),
    ((0, 1), (0, 2), (0, 3), (1, 4), (1, 5)), ((0, 1), (0, 2), (0, 3), (1, 4), (2, 5)), ((0, 1), (0, 4), (1, 2), (2, 3), (3, 4)),
    ((0, 1), (0, 2), (0, 3), (0, 4), (1, 2)), ((5, 40), (5, 99), (7, 40), (7, 99), (40, 99)),
]

APART = [((0, 1), (2, 3)), PARTS, ((0, 1), (0, 2), (1, 2), (3, 4)), ((0, 1), (2, 3), (4, 5), (6, 7), (8, 9))]

NO_ROOMS = without(THINGS, 0, 1, 2) + [3, 4, False, True, "0", (0,), [0], {0: 0}, (0, 1), 100, -1, 10 ** 39]


def plain_comes_in(cave, gate, steps):
    """The rules of [33] for a list of steps, told anew."""
    return is_plain_script(cave, steps) and all(step[0] != "take" and (step[0] != "set" or step[1] == gate) for step in steps)


def plain_fewest(cave, gate, k):
    """The fewest steps of a sure script from a gate, by going through all states, or None."""
    level = [((), cave)]
    seen = set(level)
    for many in itertools.count(1):
        found = []
        for searchers, foul in level:
            for step in at_state(cave, searchers, foul).all_steps():
                if step[0] == "take" or (step[0] == "set" and (step[1] != gate or len(searchers) == k)):
                    continue
                play = at_state(cave, searchers, foul)
                play.go(step)
                if not play.foul:
                    return many
                state = (tuple(sorted(play.searchers)), tuple(sorted(play.foul)))
                if state not in seen:
                    seen.add(state)
                    found.append(state)
        if not found:
            return None
        level = found


def steps_from(chance, cave, gate, many):
    """Drawn steps from a gate."""
    play = Plain(cave)
    steps = []
    for _ in range(many):
        able = [step for step in play.all_steps() if step[0] == "lead" or step == ("set", gate)]
        step = chance.choice(able)
        play.go(step)
        steps.append(step)
    return steps


class Gates(Case):
    def test_interface(self):
        self.interface(
            module, comes_in="cave gate steps", least_from="cave gate", script_from="cave gate k", best_gates="cave")

    def test_examples(self):
        self.has_examples(module, EXAMPLES)

    def test_from_the_middle_of_a_path(self):
        # The document's examples say 2, None and [0, 2] here. But by the words of [4] and [33] this
        # is a sure script from the gate that uses one searcher: the first lead goes to an end of
        # the path, where all is foul still, and from there the others go along the whole of it.
        steps = [("set", 1), ("lead", 1, 0), ("lead", 0, 1), ("lead", 1, 2)]
        self.assertTrue(plain_comes_in(PATH, 1, steps))
        self.assertEqual([foul for _, foul in plain_states(PATH, steps)], [list(PATH)] * 3 + [[(1, 2)], []])
        self.assertEqual((comes_in(PATH, 1, steps), is_sure(PATH, steps), uses(PATH, steps)), (True, True, 1))
        self.assertEqual([least_from(PATH, room) for room in (0, 1, 2)], [1, 1, 1])
        self.assertEqual(len(script_from(PATH, 1, 1)), 4)
        self.assertEqual(best_gates(PATH), [0, 1, 2])

    def test_scripts_from_a_gate(self):
        chance = seeded(331)
        for _ in range(150):
            cave = chance.choice(CAVES + SHAPES)
            gate = chance.choice(rooms_in(cave))
            steps = steps_from(chance, cave, gate, chance.randint(0, 14))
            self.is_bool(True, self.call(comes_in, cave, gate, steps), (cave, gate, steps))
            for room in rooms_in(cave):
                self.is_bool(plain_comes_in(cave, room, steps), comes_in(cave, room, steps), (cave, room, steps))

    def test_other_scripts(self):
        chance = seeded(332)
        worths = []
        for _ in range(200):
            cave = chance.choice(SHAPES)
            gate = chance.choice(rooms_in(cave))
            steps = steps_from(chance, cave, gate, chance.randint(1, 6)) + random_steps(chance, cave, 2)
            chance.choice((steps.sort, steps.reverse, steps.pop))()
            worth = plain_comes_in(cave, gate, steps)
            self.is_bool(worth, self.call(comes_in, cave, gate, steps), (cave, gate, steps))
            worths.append(worth)
        self.assertTrue(8 < sum(worths) < 192, sum(worths))

    def test_what_makes_a_script_one_of_no_gate(self):
        steps = [("set", 0), ("lead", 0, 1)]
        for cave in (PATH, STAR, RING):
            self.is_bool(True, comes_in(cave, 0, []))
            self.is_bool(True, comes_in(cave, 0, steps))
            self.is_bool(True, comes_in(cave, 0, steps + [("set", 0), ("lead", 1, 0)]))
            self.is_bool(False, comes_in(cave, 1, steps))
            self.is_bool(False, comes_in(cave, 0, steps + [("take", 1)]))
            self.is_bool(False, comes_in(cave, 0, steps + [("set", 1)]))
            self.is_bool(False, comes_in(cave, 0, [("set", 1)] + steps))
            self.is_bool(False, comes_in(cave, 0, steps + [("lead", 0, 1)]))
            self.is_bool(False, comes_in(cave, 0, steps + [("set", 0), ("lead", 0, 0)]))
        self.is_bool(True, comes_in(GREAT, 50, [("set", 50), ("lead", 50, 99), ("lead", 99, 0), ("set", 50)]))

    def test_as_few_as_a_search_finds(self):
        chance = seeded(333)
        for cave in SHAPES + [random_cave(chance, chance.randint(1, 5), 5) for _ in range(10)]:
            for gate in rooms_in(cave):
                fewest = [self.check_script(cave, gate, k) for k in range(4)]
                enough = [k for k in range(4) if fewest[k] is not None]
                self.assertEqual(told(self.call(least_from, cave, gate)), told(min(enough, default=None)), (cave, gate))

    def check_script(self, cave, gate, k):
        """That what is returned is such a script of as few steps as a search finds; how many."""
        many = plain_fewest(cave, gate, k)
        steps = self.call(script_from, cave, gate, k)
        self.assertEqual(None if steps is None else len(steps), many, (cave, gate, k))
        if steps is not None:
            self.assertIs(type(steps), list)
            self.assertTrue(plain_comes_in(cave, gate, steps))
            self.assertTrue(comes_in(cave, gate, steps))
            self.assertEqual(plain_states(cave, steps)[-1][1], [])
            self.assertEqual((left_by(cave, steps)[1], uses(cave, steps) <= k), ([], True))
        return many

    def test_best_gates(self):
        chance = seeded(334)
        for cave in SHAPES + [random_cave(chance, chance.randint(1, 5), 5) for _ in range(10)]:
            found = self.call(best_gates, cave)
            numbers = {gate: least_from(cave, gate) for gate in rooms_in(cave)}
            known = [number for number in numbers.values() if number is not None]
            best = [gate for gate in rooms_in(cave) if known and numbers[gate] == min(known)]
            self.assertEqual(told(found), told(best), cave)

    def test_as_few_as_without_a_gate(self):
        # Before a way is clean, nothing is lost by leading searchers from the gate to wherever they are set.
        for cave in SHAPES:
            for gate in rooms_in(cave):
                self.assertEqual(least_from(cave, gate), least(cave), (cave, gate))

    def test_caves_that_fall_apart(self):
        for cave in APART:
            for gate in rooms_in(cave):
                self.assertIs(self.call(least_from, cave, gate), None)
                for k in (0, 1, 2, 3, 10 ** 39):
                    self.assertIs(self.call(script_from, cave, gate, k), None)
            self.assertEqual(self.call(best_gates, cave), [])
            self.is_bool(True, comes_in(cave, cave[0][0], [("set", cave[0][0]), ("lead", *cave[0])]))

    def test_no_searchers_and_many(self):
        for cave in SHAPES:
            gate = cave[-1][1]
            self.assertIs(self.call(script_from, cave, gate, 0), None)
            self.assertEqual(len(script_from(cave, gate, 10 ** 40 - 1)), len(script_from(cave, gate, 4)))

    def test_somewhat_more(self):
        self.assertEqual([least_from(FULL, 0), best_gates(FULL)], [4, [0, 1, 2, 3]])
        self.assertEqual(least_from(path_of(9), 4), 1)
        self.assertEqual(len(script_from(path_of(7), 3, 1)), 1 + 3 + 7)
        # Whoever is at the end of a leg has to walk back, though to be taken up and set again were fewer steps.
        legs = tuple(sorted([(0, 1), (0, 4), (0, 7)] + [(room, room + 1) for room in (1, 2, 4, 5, 7, 8)]))
        steps = script_from(legs, 0, 2)
        self.assertEqual((comes_in(legs, 0, steps), len(steps), uses(legs, steps), is_sure(legs, steps)), (True, 2 + 3 + 3 + 6, 2, True))

    def test_results_are_new(self):
        before = told((script_from(STAR, 0, 2), best_gates(STAR)))
        script_from(STAR, 0, 2).clear()
        best_gates(STAR).clear()
        self.assertEqual(told((script_from(STAR, 0, 2), best_gates(STAR))), before)

    def test_objects_that_are_no_scripts(self):
        for thing in NO_SCRIPTS:
            self.is_bool(False, self.call(comes_in, STAR, 0, thing), thing)

    def test_no_rooms(self):
        for thing in NO_ROOMS:
            self.raises(InvalidRoom, comes_in, PATH, thing, [])
            self.raises(InvalidRoom, comes_in, PATH, thing, None)
            self.raises(InvalidRoom, least_from, PATH, thing)
            self.raises(InvalidRoom, script_from, PATH, thing, 1)
            self.raises(InvalidRoom, script_from, PATH, thing, -1)
            self.raises(InvalidRoom, least_from, APART[0], thing if told(thing) != "3" else 9)
        self.raises(InvalidRoom, least_from, FAR, 1)
        self.raises(InvalidRoom, least_from, GREAT, 100)

    def test_no_numbers(self):
        for cave in (STAR, ONE, GREAT, APART[0]):
            for thing in NO_NUMBERS:
                self.raises(InvalidNumber, script_from, cave, 0, thing)

    def test_no_caves(self):
        for thing in NO_CAVES:
            self.raises(InvalidCave, comes_in, thing, 0, [])
            self.raises(InvalidCave, least_from, thing, 0)
            self.raises(InvalidCave, script_from, thing, 0, 1)
            self.raises(InvalidCave, best_gates, thing)

    def test_the_first_error(self):
        for cave in NO_CAVES[::6]:
            for thing in NO_ROOMS[::6]:
                self.raises(InvalidCave, comes_in, cave, thing, thing)
                self.raises(InvalidCave, least_from, cave, thing)
                self.raises(InvalidCave, script_from, cave, thing, -1)
        for thing in NO_ROOMS[::4]:
            for number in NO_NUMBERS[::6]:
                self.raises(InvalidRoom, script_from, PATH, thing, number)


if __name__ == "__main__":
    unittest.main()
