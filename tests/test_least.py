"""[6], [7], [17]: the lots to which one comes, the least number, and a sweep that costs so much."""

import itertools
import unittest

from cavesweep import least as module
from cavesweep.errors import InvalidCave, InvalidNumber
from cavesweep.least import least, lots, sweep
from cavesweep.sweeps import cost_of
from support import CAVES, FULL, GREAT, NO_CAVES, NO_NUMBERS, ONE, PATH, RING, STAR
from support import Case, Plain, plain_least, plain_lots, plain_sweep_cost, random_cave, seeded


def enough(cave, k):
    """Whether a script that uses k searchers at most is sure, by going through all states of the cave."""
    first = ((), cave)
    seen = {first}
    todo = [first]
    while todo:
        searchers, foul = todo.pop()
        if not foul:
            return True
        for step in play_at(cave, searchers, foul).all_steps():
            if step[0] != "set" or len(searchers) < k:
                play = play_at(cave, searchers, foul)
                play.go(step)
                state = (tuple(sorted(play.searchers)), tuple(sorted(play.foul)))
                if state not in seen:
                    seen.add(state)
                    todo.append(state)
    return False


def play_at(cave, searchers, foul):
    play = Plain(cave)
    play.searchers, play.foul = list(searchers), set(foul)
    return play


class Least(Case):
    def test_interface(self):
        self.interface(module, lots="cave k", least="cave", sweep="cave")

    def test_examples(self):
        self.assertEqual(
            (least(((0, 1),)), least(STAR), least(RING), lots(STAR, 1)), (1, 2, 2, [(), ((0, 1),), ((0, 2),), ((0, 3),)]))
        self.assertEqual(cost_of(RING, sweep(RING)), 2)

    def test_known_numbers(self):
        self.assertEqual(least(FULL), 4)
        for many in range(3, 10):
            self.assertEqual(least(tuple((0, room) for room in range(1, many + 1))), 2)
            self.assertEqual(least(tuple((room, room + 1) for room in range(many))), 1)
            self.assertEqual(least(((0, 1), (0, many - 1)) + tuple((room, room + 1) for room in range(1, many - 1))), 2)
            self.assertEqual(least(tuple((2 * n, 2 * n + 1) for n in range(many))), 1)
        # Three branches at a room need two searchers each; without one of its ways a branch needs but one.
        threes = ((0, 1), (0, 2), (0, 3), (1, 4), (1, 5), (2, 6), (2, 7), (3, 8), (3, 9))
        self.assertEqual(least(threes), 3)
        self.assertEqual(least(threes[:-1]), 2)
        # The greatest of the parts counts.
        self.assertEqual(least(FULL + ((10, 11), (12, 13))), 4)

    def test_least_and_sweep_like_the_plain_rules(self):
        chance = seeded(17)
        some = [random_cave(chance, chance.randint(1, 9), chance.randint(4, 8)) for _ in range(60)]
        for cave in CAVES + some:
            number = self.call(least, cave)
            self.assertIs(type(number), int)
            self.assertEqual(number, plain_least(cave), cave)
            ways = self.call(sweep, cave)
            self.assertIs(type(ways), list)
            self.assertEqual(sorted(ways), list(cave))
            self.assertEqual(plain_sweep_cost(cave, ways), number)

    def test_no_sweep_costs_less(self):
        chance = seeded(18)
        for _ in range(40):
            cave = random_cave(chance, 5)
            self.assertEqual(least(cave), min(plain_sweep_cost(cave, ways) for ways in itertools.permutations(cave)))

    def test_least_is_what_a_sure_script_uses(self):
        shapes = [((0, 1), (0, 2), (1, 2), (2, 3)), ((0, 1), (0, 2), (1, 3), (2, 3)), ((0, 1), (2, 3)), FULL]
        shapes += [ONE, PATH, STAR, RING, FULL[1:], RING + ((3, 4),), ((0, 1), (1, 2), (1, 3), (3, 4))]
        for cave in shapes:
            number = least(cave)
            self.assertFalse(enough(cave, number - 1), cave)
            self.assertTrue(enough(cave, number), cave)

    def test_lots_like_the_plain_rules(self):
        for cave in CAVES:
            for k in range(6):
                found = self.call(lots, cave, k)
                self.assertEqual(found, plain_lots(cave, k), (cave, k))
                self.assertIs(type(found), list)
                self.assertEqual({type(lot) for lot in found}, {tuple})

    def test_none_and_all(self):
        for cave in CAVES:
            self.assertEqual(lots(cave, 0), [()])
            some = [subset for many in range(len(cave) + 1) for subset in itertools.combinations(cave, many)]
            self.assertEqual(self.call(lots, cave, 10 ** 40 - 1), sorted(some))
            self.assertEqual(lots(cave, 99), sorted(some))

    def test_the_lot_of_all_ways_if_k_are_enough(self):
        for cave in CAVES:
            for k in range(6):
                self.assertEqual(cave in lots(cave, k), k >= least(cave))

    def test_somewhat_more_ways(self):
        comb = tuple((n, n + 1) for n in range(6)) + tuple((n, n + 20) for n in range(6))
        cave = tuple(sorted(comb))
        self.assertEqual(least(cave), 2)
        self.assertEqual(plain_sweep_cost(cave, sweep(cave)), 2)

    def test_no_caves(self):
        for thing in NO_CAVES:
            self.raises(InvalidCave, lots, thing, 1)
            self.raises(InvalidCave, least, thing)
            self.raises(InvalidCave, sweep, thing)

    def test_no_numbers(self):
        for cave in (STAR, ONE, GREAT):
            for thing in NO_NUMBERS:
                self.raises(InvalidNumber, lots, cave, thing)

    def test_the_first_error(self):
        for cave in NO_CAVES[::5]:
            for thing in NO_NUMBERS[::5]:
                self.raises(InvalidCave, lots, cave, thing)


if __name__ == "__main__":
    unittest.main()
