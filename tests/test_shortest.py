"""[24]: sure scripts of fewest steps."""

import itertools
import unittest

from cavesweep import shortest as module
from cavesweep.caves import parts_of
from cavesweep.errors import InvalidBool, InvalidCave, InvalidNumber
from cavesweep.least import least
from cavesweep.scripts import is_sure, jumps, uses
from cavesweep.shortest import least_script
from support import CAVES, FULL, GREAT, NO_CAVES, NO_NUMBERS, ONE, PATH, RING, STAR, THINGS
from support import Case, at_state, plain_states

EXAMPLES = """
>>> from cavesweep.shortest import least_script
>>> least_script(((0, 1), (1, 2)), 1, False) in [[('set', 0), ('lead', 0, 1), ('lead', 1, 2)], [('set', 2), ('lead', 2, 1), ('lead', 1, 0)]]
True
>>> star = ((0, 1), (0, 2), (0, 3))
>>> least_script(star, 1, True) is None, len(least_script(star, 2, True)), len(least_script(star, 2, False))
(True, 5, 5)
"""

# Caves of all shapes with up to four ways.
SHAPES = [
    ONE, PATH, ((0, 1), (2, 3)), STAR, RING, ((0, 1), (1, 2), (2, 3)), ((0, 1), (1, 2), (3, 4)), ((0, 1), (2, 3), (4, 5)),
    ((0, 1), (0, 2), (0, 3), (0, 4)), ((0, 1), (0, 2), (0, 3), (1, 4)), ((0, 1), (1, 2), (2, 3), (3, 4)),
    ((0, 1), (0, 3), (1, 2), (2, 3)), ((0, 1), (0, 2), (1, 2), (2, 3)), ((0, 1), (0, 2), (1, 2), (8, 9)),
    ((0, 1), (0, 2), (0, 3), (8, 9)), ((0, 1), (1, 2), (2, 3), (8, 9)), ((0, 1), (1, 2), (5, 6), (6, 7)),
    ((0, 1), (1, 2), (5, 6), (8, 9)), ((0, 1), (2, 3), (4, 5), (6, 7)),
]

NO_BOOLS = [thing for thing in THINGS if not isinstance(thing, bool)] + [0, 1, "True", "", [True], (False,), None]


def plain_fewest(cave, k, may_jump):
    """The fewest steps of a sure script, by going through all states, or None."""
    level = {((), cave, False): None}
    seen = set(level)
    for many in itertools.count(1):
        found = {}
        for searchers, foul, moved in level:
            for step in at_state(cave, searchers, foul).all_steps():
                jump = step[0] == "take" or (step[0] == "set" and moved)
                if (step[0] == "set" and len(searchers) == k) or (jump and not may_jump):
                    continue
                play = at_state(cave, searchers, foul)
                play.go(step)
                if not play.foul:
                    return many
                state = (tuple(sorted(play.searchers)), tuple(sorted(play.foul)), not may_jump and (moved or step[0] != "set"))
                if state not in seen:
                    seen.add(state)
                    found[state] = None
        if not found:
            return None
        level = found


class Shortest(Case):
    def test_interface(self):
        self.interface(module, least_script="cave k may_jump")

    def test_examples(self):
        self.has_examples(module, EXAMPLES)

    def check(self, cave, k, may_jump):
        """That what is returned is such a script, and how many steps it has."""
        steps = self.call(least_script, cave, k, may_jump)
        if steps is None:
            return None
        self.assertIs(type(steps), list)
        self.assertEqual(plain_states(cave, steps)[-1][1], [])
        self.assertTrue(is_sure(cave, steps))
        self.assertLessEqual(uses(cave, steps), k)
        if not may_jump:
            self.is_bool(False, jumps(cave, steps))
            kinds = [step[0] for step in steps]
            self.assertEqual(kinds, sorted(kinds, reverse=True))
            self.assertNotIn("take", kinds)
        return len(steps)

    def test_as_few_as_a_search_finds(self):
        for cave in SHAPES:
            for k in range(4):
                for may_jump in (True, False):
                    self.assertEqual(self.check(cave, k, may_jump), plain_fewest(cave, k, may_jump), (cave, k, may_jump))

    def test_none_where_k_are_not_enough(self):
        for cave in SHAPES:
            for k in range(4):
                self.assertEqual(least_script(cave, k, True) is None, k < least(cave), (cave, k))

    def test_jumping_does_not_help_where_the_cave_hangs_together(self):
        for cave in SHAPES:
            if len(parts_of(cave)) == 1:
                for k in range(4):
                    self.assertEqual(least_script(cave, k, False) is None, k < least(cave), (cave, k))

    def test_no_searchers(self):
        for cave in SHAPES:
            self.assertIs(self.check(cave, 0, True), None)
            self.assertIs(self.check(cave, 0, False), None)

    def test_several_parts(self):
        parts = ((0, 1), (2, 3))
        self.assertEqual([self.check(parts, k, False) for k in (1, 2, 3)], [None, 4, 4])
        self.assertEqual([self.check(parts, k, True) for k in (1, 2, 3)], [5, 4, 4])
        parts = ((0, 1), (2, 3), (4, 5), (6, 7))
        self.assertEqual([self.check(parts, k, True) for k in (1, 2, 3, 4)], [11, 10, 9, 8])
        self.assertEqual([self.check(parts, k, False) for k in (1, 2, 3, 4)], [None, None, None, 8])
        ring = RING + ((8, 9),)
        self.assertEqual([self.check(ring, k, False) is None for k in (1, 2, 3)], [True, True, False])
        self.assertEqual([self.check(ring, k, True) is None for k in (1, 2, 3)], [True, False, False])

    def test_rooms_at_both_ends(self):
        self.assertEqual(self.check(((0, 99),), 1, False), 2)
        self.assertEqual(self.check(((0, 99), (98, 99)), 1, True), 3)

    def test_more_searchers_than_needed(self):
        for cave in (ONE, PATH, STAR, RING):
            for may_jump in (True, False):
                self.assertEqual(self.check(cave, 10 ** 40 - 1, may_jump), self.check(cave, 5, may_jump))

    def test_somewhat_more(self):
        self.assertEqual(self.check(((0, 1), (0, 2), (0, 3), (0, 4), (0, 5)), 4, True), 8)
        self.assertEqual(self.check(((0, 1), (1, 2), (2, 3), (3, 4), (4, 5)), 1, False), 6)
        self.assertEqual(self.check(FULL, 4, False), 10)

    def test_scripts_are_new(self):
        least_script(PATH, 1, True).clear()
        self.assertEqual(len(least_script(PATH, 1, True)), 3)

    def test_no_caves(self):
        for thing in NO_CAVES:
            self.raises(InvalidCave, least_script, thing, 1, True)

    def test_no_numbers(self):
        for cave in (STAR, ONE):
            for thing in NO_NUMBERS:
                self.raises(InvalidNumber, least_script, cave, thing, False)
        self.raises(InvalidNumber, least_script, GREAT, -1, False)

    def test_no_bools(self):
        for cave in (STAR, CAVES[8]):
            for thing in NO_BOOLS:
                self.raises(InvalidBool, least_script, cave, 1, thing)
                self.raises(InvalidBool, least_script, cave, 10 ** 40 - 1, thing)
        self.raises(InvalidBool, least_script, GREAT, 0, 0)

    def test_the_first_error(self):
        for thing in THINGS[::3]:
            self.raises(InvalidCave, least_script, thing, thing, thing)
            self.raises(InvalidCave, least_script, thing, -1, 0)
        for thing in NO_NUMBERS[::3]:
            self.raises(InvalidNumber, least_script, PATH, thing, 0)
            self.raises(InvalidNumber, least_script, PATH, thing, None)


if __name__ == "__main__":
    unittest.main()
