"""[27]: bars that so many searchers are not enough."""

import itertools
import unittest

from cavesweep import bars as module
from cavesweep.bars import bar, is_bar
from cavesweep.errors import InvalidCave, InvalidNumber
from cavesweep.least import least
from cavesweep.shortest import least_script
from support import CAVES, FAR, FULL, GREAT, NO_CAVES, NO_NUMBERS, ONE, PATH, RING, STAR, THINGS
from support import Case, at_state, path_of, plain_sure_with, random_cave, seeded, star_of, told

EXAMPLES = """
>>> from cavesweep.bars import bar, is_bar
>>> star = ((0, 1), (0, 2), (0, 3))
>>> is_bar(star, 1, bar(star, 1)), bar(star, 2) is None, is_bar(star, 0, [((), star)]), is_bar(star, 1, [((), star)])
(True, True, True, False)
>>> rows = [((), star), ((1,), star), ((2,), star), ((3,), star)]
>>> is_bar(star, 1, rows + [((0,), star[:2]), ((0,), star[1:]), ((0,), star[:1] + star[2:])])
True
"""

TWO = ((0, 1), (2, 3))
# Caves of all shapes with at most six ways and six rooms.
SHAPES = [
    ONE, FAR, PATH, STAR, RING, FULL, TWO, path_of(3), path_of(4), path_of(5), star_of(4), star_of(5), RING + ((3, 4),),
    ((0, 1), (2, 3), (4, 5)), ((0, 1), (0, 2), (1, 2), (3, 4), (3, 5), (4, 5)), ((0, 1), (0, 3), (1, 2), (2, 3)),
    ((0, 1), (0, 2), (0, 3), (1, 4), (2, 5)), ((0, 1), (0, 2), (1, 2), (1, 3), (2, 3), (3, 4)),
]


def is_plain_state(cave, thing):
    """Whether a tuple of rooms and one of ways are a state, as [27] tells."""
    searchers, foul = thing
    rooms = {room for way in cave for room in way}
    if not set(searchers) <= rooms or not set(foul) <= set(cave):
        return False
    if list(searchers) != sorted(searchers) or list(foul) != sorted(set(foul)):
        return False
    for room in rooms - set(searchers):
        here = {way in foul for way in cave if room in way}
        if len(here) == 2:
            return False
    return True


def behind(cave, k, state):
    """The states behind all steps that can be there and leave k searchers at most."""
    found = []
    for step in at_state(cave, *state).all_steps():
        play = at_state(cave, *state)
        play.go(step)
        if len(play.searchers) <= k:
            found.append((tuple(sorted(play.searchers)), tuple(sorted(play.foul))))
    return found


def is_covered(rows, state):
    return any(searchers == state[0] and set(foul) <= set(state[1]) for searchers, foul in rows)


def plain_is_bar(cave, k, rows):
    """The rules of [27] for a list of pairs of tuples, told anew."""
    if not all(is_plain_state(cave, state) and len(state[0]) <= k and state[1] for state in rows):
        return False
    return is_covered(rows, ((), cave)) and all(is_covered(rows, after) for state in rows for after in behind(cave, k, state))


def all_states(cave, k):
    """All states with so many searchers at most."""
    rooms = sorted({room for way in cave for room in way})
    crowds = [crowd for many in range(k + 1) for crowd in itertools.combinations_with_replacement(rooms, many)]
    lots = [lot for many in range(len(cave) + 1) for lot in itertools.combinations(cave, many)]
    return [(crowd, lot) for crowd in crowds for lot in lots if is_plain_state(cave, (crowd, lot))]


class Bars(Case):
    def test_interface(self):
        self.interface(module, is_bar="cave k thing", bar="cave k")

    def test_examples(self):
        self.has_examples(module, EXAMPLES)

    def check(self, cave, k, rows):
        """That is_bar tells of a list what the words do."""
        worth = plain_is_bar(cave, k, rows)
        self.is_bool(worth, self.call(is_bar, cave, k, rows), (cave, k, rows))
        return worth

    def test_a_bar_or_none(self):
        chance = seeded(271)
        for cave in SHAPES + [random_cave(chance, chance.randint(1, 6)) for _ in range(25)]:
            for k in range(3):
                found = self.call(bar, cave, k)
                self.assertEqual(found is None, k >= least(cave), (cave, k))
                if found is not None:
                    self.assertIs(type(found), list)
                    for searchers, foul in found:
                        self.assertIs(type(searchers), tuple)
                        self.assertIs(type(foul), tuple)
                    self.assertTrue(self.check(cave, k, found), (cave, k))

    def test_bars_and_sure_scripts(self):
        chance = seeded(272)
        for cave in [cave for cave in SHAPES if len(cave) <= 4] + [random_cave(chance, chance.randint(1, 4)) for _ in range(10)]:
            for k in range(3):
                enough = plain_sure_with(cave, k, "plain")
                self.assertEqual(bar(cave, k) is None, enough, (cave, k))
                self.assertEqual(least_script(cave, k, True) is None, not enough, (cave, k))

    def test_in_any_order_and_more_than_once(self):
        chance = seeded(273)
        for cave in SHAPES:
            for k in range(min(3, least(cave))):
                rows = bar(cave, k)
                self.is_bool(True, is_bar(cave, k, rows[::-1]))
                self.is_bool(True, self.call(is_bar, cave, k, chance.sample(rows, len(rows)) + chance.choices(rows, k=4)))

    def test_one_left_out(self):
        for cave in SHAPES:
            for k in range(min(3, least(cave))):
                rows = bar(cave, k)
                for at in list(range(len(rows)))[:40]:
                    self.check(cave, k, rows[:at] + rows[at + 1:])
                self.is_bool(False, is_bar(cave, k, [state for state in rows if state[0] != ()]))
                self.is_bool(False, is_bar(cave, k, []))

    def test_one_put_in(self):
        chance = seeded(274)
        for cave in (ONE, PATH, STAR, RING, TWO, FULL, path_of(3), star_of(4)):
            for k in range(min(3, least(cave))):
                rows = bar(cave, k)
                # Of states with a searcher more, or none foul, none is a bar.
                every = all_states(cave, k + 1)
                worths = [self.check(cave, k, chance.choice((rows + [state], [state] + rows)))
                          for state in chance.sample(every, min(40, len(every)))]
                self.assertTrue(k == 0 or len(set(worths)) == 2 or cave == ONE, (cave, k))

    def test_one_made_less(self):
        chance = seeded(275)
        done = 0
        for cave in SHAPES:
            for k in range(1, min(3, least(cave))):
                rows = bar(cave, k)
                for at in chance.sample(range(len(rows)), min(12, len(rows))):
                    searchers, foul = rows[at]
                    for way in foul:
                        less = (searchers, tuple(other for other in foul if other != way))
                        done += self.check(cave, k, rows[:at] + [less] + rows[at + 1:])
                        done += self.check(cave, k, rows + [less])
                    for room in {room for way in cave for room in way}:
                        self.check(cave, k, rows[:at] + [(tuple(sorted(searchers + (room,))), foul)] + rows[at + 1:])
        self.assertGreater(done, 3)

    def test_one_made_more(self):
        chance = seeded(276)
        for cave in SHAPES:
            for k in range(1, min(3, least(cave))):
                rows = bar(cave, k)
                for at in chance.sample(range(len(rows)), min(12, len(rows))):
                    searchers, foul = rows[at]
                    for way in set(cave) - set(foul):
                        self.check(cave, k, rows[:at] + [(searchers, tuple(sorted(foul + (way,))))] + rows[at + 1:])

    def test_all_lists_of_states_of_small_caves(self):
        for cave, k in ((ONE, 0), (ONE, 1), (ONE, 2), (PATH, 0), (PATH, 1), (TWO, 0)):
            every = all_states(cave, k)
            for many in range(min(len(every), 7) + 1):
                for rows in itertools.combinations(every, many):
                    self.is_bool(plain_is_bar(cave, k, rows), is_bar(cave, k, list(rows)), (cave, k, rows))

    def test_drawn_lists_of_states(self):
        chance = seeded(277)
        found = 0
        for cave, k in ((RING, 1), (STAR, 1), (TWO, 1), (path_of(3), 1), (RING, 2), (FULL, 1), (FULL, 2), (FULL, 0)):
            every = [state for state in all_states(cave, k) if state[1]]
            # The more there are, the oftener one covers what is behind the others.
            for _ in range(25):
                rows = [state for state in every if len(state[1]) > chance.randrange(len(cave) + 1) or chance.random() < 0.2]
                found += self.check(cave, k, rows)
        self.assertGreater(found, 3)

    def test_a_lesser_bar_than_all_states(self):
        # What is foul in one covers what is foul in another one with the same searchers, not the other way round.
        rows = [((), RING), ((0,), ((0, 1),)), ((1,), RING), ((2,), RING)]
        self.assertFalse(self.check(RING, 1, rows))
        rows = [((), RING), ((0,), RING), ((1,), RING), ((2,), RING)]
        self.assertTrue(self.check(RING, 1, rows))
        self.assertFalse(self.check(STAR, 1, [((), STAR)] + [((room,), STAR) for room in range(4)]))
        rows = [((), STAR), ((1,), STAR), ((2,), STAR), ((3,), STAR)]
        pairs = [((0,), STAR[:2]), ((0,), STAR[1:]), ((0,), STAR[:1] + STAR[2:])]
        self.assertTrue(self.check(STAR, 1, rows + pairs))
        self.assertTrue(self.check(STAR, 1, rows + pairs + [((0,), STAR)]))
        for at in range(3):
            self.assertFalse(self.check(STAR, 1, rows + pairs[:at] + pairs[at + 1:]))
        # A state to which one does not come counts.
        self.assertFalse(self.check(STAR, 1, rows + pairs + [((0,), STAR[:1])]))

    def test_no_searchers(self):
        for cave in SHAPES + CAVES + [GREAT]:
            self.is_bool(True, is_bar(cave, 0, [((), cave)]))
            self.is_bool(True, is_bar(cave, 0, [((), cave)] * 3))
            self.is_bool(False, is_bar(cave, 0, []))
            self.is_bool(False, is_bar(cave, 0, [((), ())]))
            self.is_bool(False, is_bar(cave, 0, [((), cave), ((cave[0][0],), cave)]))
            self.is_bool(True, is_bar(cave, 0, bar(cave, 0)))
        # A part by itself can be foul, or not.
        self.assertTrue(self.check(TWO, 0, [((), TWO), ((), TWO[:1])]))
        self.assertTrue(self.check(TWO, 0, [((), TWO[1:])]))
        self.assertFalse(self.check(PATH, 0, [((), PATH), ((), PATH[:1])]))

    def test_somewhat_more(self):
        for cave, k in ((FULL, 3), (tuple(itertools.combinations(range(5), 2)), 2), (star_of(8), 1)):
            rows = bar(cave, k)
            self.assertTrue(plain_is_bar(cave, k, rows))
            self.is_bool(True, is_bar(cave, k, rows))
        for cave in (ONE, PATH, RING, STAR, FULL):
            self.assertIs(bar(cave, 10 ** 39), None)
            self.is_bool(False, is_bar(cave, 10 ** 40 - 1, [((), cave)]))
            for k in range(3, 6):
                self.assertEqual(bar(cave, k) is None, k >= least(cave))

    def test_things_that_are_none(self):
        for thing in THINGS:
            self.is_bool(False, self.call(is_bar, STAR, 1, thing), thing)
            self.is_bool(False, self.call(is_bar, STAR, 0, thing), thing)
        rows = bar(STAR, 1)
        at = next(at for at, state in enumerate(rows) if state[0] == (1,))
        others = rows[:at] + rows[at + 1:]
        equal = [
            tuple(rows), {state: True for state in rows}, [list(state) for state in rows], rows + [[]], rows + [None], rows + [()], rows + [((),)],
            rows + [((), STAR, ())], rows + [([], STAR)], rows + [((), list(STAR))], rows + [((), [])], rows + [{}], rows + [0], rows + ["set 0"],
            others + [((True,), STAR)], others + [([1], STAR)], others + [(1, STAR)], others + [((1,), list(STAR))], others + [[(1,), STAR]],
            others + [((1,), ((False, 1), (0, 2), (0, 3)))], others + [((1,), ([0, 1], (0, 2), (0, 3)))], others + [((1,), STAR[::-1])],
            others + [((1,), STAR + STAR[2:])], rows + [((1,), ((0, 1), (0, 2), (0, 3), (1, 2)))], rows + [((4,), STAR)], rows + [((-1,), STAR)],
            rows + [((0,), ((1, 2),))], rows + [((0,), ((0, 4),))], rows + [((0,), ((1, 0),))], rows + [((0,), (STAR,))], rows + [(STAR, ())],
            rows + [((1, 0), STAR)], rows + [((1, 1), STAR)], rows + [((0,), ())], rows + [((1,), ((0, 1),))], rows + [((), STAR[:1])],
            rows + [(("1",), STAR)], rows + [((None,), STAR)], rows + [((10 ** 39,), STAR)], rows + [(([],), STAR)], rows + [(({},), STAR)],
            rows + [((1,), ({},))], rows + [((1,), (None,))], rows + [((1,), 0)], rows + [(0, 0)], rows + [(None, None)], rows + [((), STAR, STAR)],
        ]
        for thing in equal:
            self.is_bool(False, self.call(is_bar, STAR, 1, thing), thing)
        self.is_bool(True, is_bar(STAR, 1, others + [((1,), STAR)]))
        # Two who are not ascending are no state, whatever else stands in the list.
        rows = bar(FULL, 2)
        pair = next(state for state in rows if len(set(state[0])) == 2)
        self.is_bool(False, is_bar(FULL, 2, rows + [(pair[0][::-1], pair[1])]))
        self.is_bool(True, is_bar(FULL, 2, rows + [pair]))

    def test_two_at_one_room(self):
        rows = bar(FULL, 2)
        self.assertTrue(any(state[0] == (0, 0) for state in rows))
        self.assertFalse(self.check(FULL, 2, [state for state in rows if state[0] != (0, 0)]))
        self.assertFalse(self.check(FULL, 1, rows))

    def test_no_caves(self):
        for thing in NO_CAVES:
            self.raises(InvalidCave, bar, thing, 1)
            self.raises(InvalidCave, is_bar, thing, 1, [((), STAR)])

    def test_no_numbers(self):
        for cave in (STAR, ONE, GREAT[:200]):
            for thing in NO_NUMBERS:
                self.raises(InvalidNumber, bar, cave, thing)
                self.raises(InvalidNumber, is_bar, cave, thing, [((), cave)])
                self.raises(InvalidNumber, is_bar, cave, thing, None)

    def test_the_first_error(self):
        for cave in NO_CAVES[::5]:
            for thing in NO_NUMBERS[::5]:
                self.raises(InvalidCave, bar, cave, thing)
                self.raises(InvalidCave, is_bar, cave, thing, thing)

    def test_bars_are_new(self):
        before = told(bar(STAR, 1))
        bar(STAR, 1).clear()
        self.assertEqual(told(bar(STAR, 1)), before)


if __name__ == "__main__":
    unittest.main()
