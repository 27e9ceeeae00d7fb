"""[29]: orders of rooms."""

import itertools
import unittest

from cavesweep import rooms as module
from cavesweep.errors import InvalidCave, InvalidNumber, InvalidOrder
from cavesweep.lamps import first_dark, is_lit, lamps_used
from cavesweep.rooms import best_order, breadth, held_rooms, lamps_of, least_breadth
from support import CAVES, FAR, FULL, GREAT, NO_CAVES, NO_NUMBERS, ONE, PARTS, PATH, RING, STAR, THINGS
from support import Case, path_of, plain_breadth, plain_held, plain_room_lots, plain_states, plain_sure_with, random_cave, random_order
from support import rooms_in, seeded, star_of, told, without

EXAMPLES = """
>>> from cavesweep.rooms import best_order, breadth, held_rooms, lamps_of, least_breadth
>>> path, ring = ((0, 1), (1, 2)), ((0, 1), (0, 2), (1, 2))
>>> held_rooms(path, [0, 1, 2], 1), held_rooms(path, [0, 2, 1], 2), held_rooms(path, [0, 1, 2], 3)
([0], [0, 2], [])
>>> breadth(path, [0, 1, 2]), breadth(path, [2, 0, 1]), breadth(ring, [2, 0, 1])
(1, 2, 2)
>>> least_breadth(path), least_breadth(ring), breadth(ring, best_order(ring))
(1, 2, 2)
>>> from cavesweep.lamps import is_lit, lamps_used
>>> steps = lamps_of(path, [2, 0, 1])
>>> is_lit(path, steps), lamps_used(path, steps)
(True, 3)
"""

# Caves of at most ten rooms.
NARROW = [cave for cave in CAVES if len(rooms_in(cave)) <= 10]

NO_ORDERS = without(THINGS, [0, 1, 2, 3]) + [
    [0, 1, 2], [0, 1, 2, 3, 3], [0, 1, 2, 2], [0, 1, 2, 4], [1, 2, 3, 4], (0, 1, 2, 3), {0: 1, 1: 1, 2: 1, 3: 1}, "0123", [0, 1, 2, True],
    [False, 1, 2, 3], [0, True, 2, 3], ["0", 1, 2, 3], [0, 1, 2, "3"], [0, 1, 2, None], [0, 1, 2, [3]], [[0, 1, 2, 3]], [0, 1, 2, (3,)],
    [0, 1, 2, {}], [0, 1, 2, 10 ** 39], [0, 1, 2, -3], [0, 1, 2, 100], [None, [], {}, ()], [(0, 1), (0, 2), (0, 3)], [0, 1, 2, 3] * 2,
]


class Rooms(Case):
    def test_interface(self):
        self.interface(
            module, held_rooms="cave rooms number", breadth="cave rooms", lamps_of="cave rooms", least_breadth="cave", best_order="cave")

    def test_examples(self):
        self.has_examples(module, EXAMPLES)

    def check(self, cave, order):
        """What is told of an order, and that its script of lamps is one, step by step."""
        for number in range(len(order) + 1):
            self.assertEqual(told(self.call(held_rooms, cave, order, number)), told(plain_held(cave, order[:number])), (cave, order))
        many = plain_breadth(cave, order)
        self.assertEqual(told(self.call(breadth, cave, order)), told(many))
        steps = self.call(lamps_of, cave, order)
        self.assertIs(type(steps), list)
        self.assertEqual([step[1] for step in steps if step[0] == "set"], order)
        states = plain_states(cave, steps, "lamps")
        self.assertEqual(states[-1][1], [])
        for (_, before), (_, foul) in zip(states, states[1:]):
            self.assertLessEqual(set(foul), set(before), (cave, order, steps))
        self.assertEqual(max(len(searchers) for searchers, _ in states), many + 1)
        self.assertEqual((is_lit(cave, steps), lamps_used(cave, steps), first_dark(cave, steps)), (True, many + 1, None))

    def test_all_orders_of_small_caves(self):
        for cave in (ONE, FAR, PATH, STAR, RING, FULL, ((0, 1), (2, 3)), path_of(3), RING + ((2, 3),), ((0, 3), (1, 2), (1, 3))):
            for order in itertools.permutations(rooms_in(cave)):
                self.check(cave, list(order))

    def test_drawn_orders(self):
        chance = seeded(291)
        for _ in range(80):
            cave = chance.choice(CAVES + [random_cave(chance, chance.randint(1, 14), 8)])
            self.check(cave, random_order(chance, cave))
            self.check(cave, rooms_in(cave))
            self.check(cave, rooms_in(cave)[::-1])

    def test_great_caves(self):
        chance = seeded(292)
        order = chance.sample(range(100), 100)
        self.assertEqual(breadth(GREAT, order), 99)
        self.assertEqual(held_rooms(GREAT, order, 99), sorted(order[:99]))
        self.assertEqual((held_rooms(GREAT, order, 100), held_rooms(GREAT, order, 0)), ([], []))
        self.assertEqual(lamps_used(GREAT, lamps_of(GREAT, order)), 100)
        line = path_of(99)
        self.check(line, list(range(100)))
        self.assertEqual(breadth(line, list(range(0, 100, 2)) + list(range(1, 100, 2))), 50)
        self.assertEqual(breadth(star_of(99), list(range(100))), 1)
        self.assertEqual(breadth(star_of(99), list(range(99, -1, -1))), 99)

    def test_the_least_breadth_of_all_orders(self):
        chance = seeded(293)
        caves = [cave for cave in NARROW if len(rooms_in(cave)) <= 6]
        for cave in caves + [random_cave(chance, chance.randint(1, 10), 6) for _ in range(15)]:
            orders = list(itertools.permutations(rooms_in(cave)))
            many = min(plain_breadth(cave, order) for order in orders)
            self.assertEqual(told(self.call(least_breadth, cave)), told(many), cave)
            self.check_best(cave, many)

    def check_best(self, cave, many):
        order = self.call(best_order, cave)
        self.assertIs(type(order), list)
        self.assertEqual(sorted(order), rooms_in(cave))
        self.assertEqual(plain_breadth(cave, order), many)
        self.assertEqual(breadth(cave, order), many)

    def test_the_least_breadth_by_lots(self):
        chance = seeded(294)
        for cave in NARROW + [random_cave(chance, chance.randint(4, 20), 9) for _ in range(10)]:
            many = self.call(least_breadth, cave)
            every = tuple(rooms_in(cave))
            self.assertIn(every, plain_room_lots(cave, many))
            self.assertNotIn(every, plain_room_lots(cave, many - 1))
            self.check_best(cave, many)

    def test_the_least_number_of_lamps(self):
        chance = seeded(295)
        for cave in [ONE, PATH, STAR, RING, PARTS] + [random_cave(chance, chance.randint(1, 5), 5) for _ in range(8)]:
            many = least_breadth(cave) + 1
            self.assertTrue(plain_sure_with(cave, many, "lamps"), cave)
            self.assertFalse(plain_sure_with(cave, many - 1, "lamps"), cave)

    def test_known_breadths(self):
        self.assertEqual([least_breadth(path_of(many)) for many in (1, 2, 9)], [1, 1, 1])
        self.assertEqual([least_breadth(star_of(many)) for many in (3, 9)], [1, 1])
        for rooms in range(2, 11):
            self.assertEqual(least_breadth(tuple(itertools.combinations(range(rooms), 2))), rooms - 1)
        grid = tuple(sorted([(room, room + 1) for room in range(9) if room % 3 < 2] + [(room, room + 3) for room in range(6)]))
        self.assertEqual(least_breadth(grid), 3)
        self.assertEqual(least_breadth(((0, 1), (2, 3), (4, 5), (6, 7), (8, 9))), 1)
        # Somewhat more rooms.
        self.assertEqual((least_breadth(path_of(14)), least_breadth(star_of(13))), (1, 1))

    def test_orders_are_new(self):
        before = told(best_order(RING))
        best_order(RING).clear()
        lamps_of(RING, best_order(RING)).clear()
        self.assertEqual(told(best_order(RING)), before)

    def test_the_first_and_the_last_number(self):
        for cave in CAVES + [GREAT]:
            order = rooms_in(cave)
            self.assertEqual((held_rooms(cave, order, 0), held_rooms(cave, order, len(order))), ([], []))
            self.raises(InvalidNumber, held_rooms, cave, order, len(order) + 1)

    def test_no_numbers(self):
        for thing in NO_NUMBERS + [5, 100, 10 ** 39, 10 ** 40 - 1]:
            self.raises(InvalidNumber, held_rooms, STAR, [3, 1, 2, 0], thing)

    def test_no_orders(self):
        for thing in NO_ORDERS:
            self.raises(InvalidOrder, breadth, STAR, thing)
            self.raises(InvalidOrder, lamps_of, STAR, thing)
            self.raises(InvalidOrder, held_rooms, STAR, thing, 1)
            self.raises(InvalidOrder, held_rooms, STAR, thing, -1)
        self.raises(InvalidOrder, breadth, FAR, [0, 1])
        self.raises(InvalidOrder, breadth, GREAT, list(range(99)))

    def test_no_caves(self):
        for thing in NO_CAVES:
            for function in (least_breadth, best_order):
                self.raises(InvalidCave, function, thing)
            for function in (breadth, lamps_of):
                self.raises(InvalidCave, function, thing, [0, 1])
            self.raises(InvalidCave, held_rooms, thing, [0, 1], 0)

    def test_the_first_error(self):
        for cave in NO_CAVES[::6]:
            for thing in NO_ORDERS[::6]:
                self.raises(InvalidCave, breadth, cave, thing)
                self.raises(InvalidCave, lamps_of, cave, thing)
                self.raises(InvalidCave, held_rooms, cave, thing, thing)
        for thing in NO_ORDERS[::3]:
            for number in NO_NUMBERS[::7]:
                self.raises(InvalidOrder, held_rooms, STAR, thing, number)


if __name__ == "__main__":
    unittest.main()
