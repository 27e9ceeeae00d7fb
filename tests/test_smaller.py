"""[34]: caves made smaller, and their numbers."""

import itertools
import unittest

from cavesweep import smaller as module
from cavesweep.caves import is_cave
from cavesweep.errors import InvalidCave, InvalidNumber, InvalidWay
from cavesweep.least import least
from cavesweep.mixed import least_mixed
from cavesweep.rooms import least_breadth
from cavesweep.smaller import drawn, is_tight, numbers, trebled, without_way
from support import CAVES, FAR, FULL, GREAT, NO_CAVES, NO_NUMBERS, ONE, PARTS, PATH, RING, STAR, THINGS
from support import Case, path_of, plain_least, plain_room_lots, plain_sure_with, random_cave, rooms_in, seeded, star_of, told, without
from test_mixed import plain_least_mixed
from test_rooms import NARROW

EXAMPLES = """
>>> from cavesweep.smaller import drawn, is_tight, numbers, trebled, without_way
>>> path, ring = ((0, 1), (1, 2)), ((0, 1), (0, 2), (1, 2))
>>> without_way(path, (0, 1)), drawn(path, (1, 2)), drawn(ring, (1, 2)), drawn(((0, 1),), (0, 1))
(((1, 2),), ((0, 1),), ((0, 1),), None)
>>> trebled(((3, 7),)), numbers(path), numbers(ring)
(((0, 2), (1, 3), (2, 3)), (1, 2, 1), (2, 3, 2))
>>> is_tight(ring, 0), is_tight(ring, 1), is_tight(path, 1)
(True, True, False)
"""

SHAPES = [
    ONE, FAR, PATH, STAR, RING, PARTS, path_of(4), star_of(5), ((0, 1), (2, 3)), ((0, 1), (2, 3), (4, 5)), RING + ((2, 3),), RING + ((3, 4),),
    ((0, 1), (0, 3), (1, 2), (2, 3)), ((0, 1), (0, 2), (0, 3), (1, 2), (1, 3)), ((0, 1), (0, 4), (1, 2), (2, 3), (3, 4)),
    ((0, 1), (0, 2), (0, 3), (1, 4), (1, 5)), ((0, 1), (0, 2), (1, 2), (8, 9), (9, 10)), ((98, 99),), ((0, 1), (0, 2), (1, 2), (1, 3), (2, 3)),
]

NO_INDEXES = [thing for thing in NO_NUMBERS] + [3, 4, 99, 10 ** 39, 10 ** 40 - 1]


def plain_numbers(cave):
    """The three numbers, the second one by the lots of rooms."""
    every = tuple(rooms_in(cave))
    lamps = next(k for k in itertools.count(1) if every in plain_room_lots(cave, k)) + 1
    return (plain_least(cave), lamps, plain_least_mixed(cave))


def made_smaller(cave):
    """All caves with one way less, or drawn together by one; () where no way is left."""
    found = [tuple(other for other in cave if other != way) for way in cave]
    for room, gone in cave:
        ends = [tuple(sorted(room if end == gone else end for end in way)) for way in cave]
        found.append(tuple(sorted({way for way in ends if way[0] != way[1]})))
    return found


def plain_trebled(cave):
    """The trebled cave, told by the names of its new rooms."""
    names = [("room", room) for room in rooms_in(cave)]
    for at in range(len(cave)):
        names += [("lesser", at), ("greater", at)]
    ways = []
    for at, (room, other) in enumerate(cave):
        row = [("room", room), ("lesser", at), ("greater", at), ("room", other)]
        ways += [tuple(sorted((names.index(one), names.index(next_one)))) for one, next_one in zip(row, row[1:])]
    return tuple(sorted(ways)) if len(names) <= 100 else None


class Smaller(Case):
    def test_interface(self):
        self.interface(
            module, without_way="cave way", drawn="cave way", trebled="cave", numbers="cave", is_tight="cave index")

    def test_examples(self):
        self.has_examples(module, EXAMPLES)

    def test_made_smaller(self):
        chance = seeded(341)
        for cave in CAVES + SHAPES + [random_cave(chance, chance.randint(1, 20), 8) for _ in range(60)]:
            found = [self.call(without_way, cave, way) for way in cave] + [self.call(drawn, cave, way) for way in cave]
            self.assertEqual(told(found), told([made or None for made in made_smaller(cave)]), cave)
            for made in found:
                self.assertTrue(made is None or is_cave(made))

    def test_made_smaller_until_none_is_left(self):
        chance = seeded(342)
        for cave in [FULL, GREAT[:200], path_of(99), star_of(99)]:
            while cave is not None:
                way = chance.choice(cave)
                smaller = chance.choice((without_way, drawn))(cave, way)
                if smaller is None:
                    self.assertEqual(len(cave), 1)
                else:
                    self.assertLess(len(smaller), len(cave))
                cave = smaller

    def test_ways_that_become_the_same(self):
        self.assertEqual(drawn(FULL, (0, 1)), ((0, 2), (0, 3), (2, 3)))
        self.assertEqual(drawn(FULL, (2, 3)), RING)
        # The greater end becomes the lesser one, which may turn a way round.
        self.assertEqual(drawn(((0, 9), (5, 9)), (0, 9)), ((0, 5),))
        self.assertEqual(drawn(((3, 9), (5, 9), (7, 9)), (5, 9)), ((3, 5), (5, 7)))
        self.assertEqual(drawn(GREAT, (0, 99)), tuple(way for way in GREAT if 99 not in way))

    def test_trebled(self):
        chance = seeded(343)
        for cave in CAVES + SHAPES + [random_cave(chance, chance.randint(1, 20), 8) for _ in range(40)]:
            found = self.call(trebled, cave)
            self.assertEqual(told(found), told(plain_trebled(cave)), cave)
            self.assertTrue(is_cave(found))
            self.assertEqual((len(found), rooms_in(found)), (3 * len(cave), list(range(len(rooms_in(cave)) + 2 * len(cave)))))

    def test_trebled_up_to_the_bound(self):
        # A path of n ways has 3 * n + 1 rooms then, a ring 3 * n, ways apart 4 * n.
        self.assertEqual(len(self.call(trebled, path_of(33))), 99)
        self.assertIs(self.call(trebled, path_of(34)), None)
        ring = tuple(sorted(path_of(32) + ((0, 32),)))
        self.assertEqual(trebled(ring), plain_trebled(ring))
        ring = tuple(sorted(path_of(33) + ((0, 33),)))
        self.assertIs(trebled(ring), None)
        apart = tuple((2 * room, 2 * room + 1) for room in range(25))
        self.assertEqual((trebled(apart), len(rooms_in(trebled(apart)))), (plain_trebled(apart), 100))
        self.assertIs(trebled(apart + ((98, 99),)), None)
        # Two paths of 33 ways together would have 101 rooms.
        self.assertIs(trebled(path_of(32) + ((40, 41),)), None)
        self.assertEqual(len(rooms_in(trebled(path_of(31) + ((40, 41),)))), 98)
        for cave in (GREAT, path_of(99), star_of(99)):
            self.assertIs(trebled(cave), None)

    def test_the_breadth_of_the_trebled_cave(self):
        chance = seeded(344)
        for cave in SHAPES + [FULL, path_of(6)] + [random_cave(chance, chance.randint(1, 5), 5) for _ in range(10)]:
            self.assertEqual(least_breadth(trebled(cave)), least(cave), cave)

    def test_numbers(self):
        chance = seeded(345)
        for cave in NARROW + SHAPES + [random_cave(chance, chance.randint(1, 7)) for _ in range(15)]:
            found = self.call(numbers, cave)
            self.assertEqual(told(found), told(plain_numbers(cave)), cave)
            self.assertEqual(found, (least(cave), least_breadth(cave) + 1, least_mixed(cave)))

    def test_numbers_over_all_states(self):
        for cave in (ONE, PATH, STAR, RING, ((0, 1), (2, 3)), RING + ((2, 3),)):
            for manner, many in zip(("plain", "lamps", "mixed"), numbers(cave)):
                self.assertTrue(plain_sure_with(cave, many, manner), cave)
                self.assertFalse(plain_sure_with(cave, many - 1, manner), cave)

    def test_how_the_numbers_stand_to_each_other(self):
        chance = seeded(346)
        for cave in NARROW + SHAPES + [random_cave(chance, chance.randint(1, 9), chance.randint(3, 9)) for _ in range(40)]:
            plain, lamps, mixed = numbers(cave)
            self.assertTrue(max(plain, lamps) - 1 <= mixed <= min(plain, lamps), cave)
            for made in made_smaller(cave):
                if made:
                    self.assertTrue(all(less <= many for less, many in zip(numbers(made), numbers(cave))), (cave, made))

    def test_tight_caves(self):
        chance = seeded(347)
        worths = []
        for cave in SHAPES + [random_cave(chance, chance.randint(1, 5), 5) for _ in range(40)]:
            for index in range(3):
                many = plain_numbers(cave)[index]
                worth = all((plain_numbers(made)[index] if made else 0) < many for made in made_smaller(cave))
                self.is_bool(worth, self.call(is_tight, cave, index), (cave, index))
                worths.append(worth)
        self.assertTrue(5 < sum(worths) < len(worths) - 5, sum(worths))

    def test_known_tight_caves(self):
        for index in range(3):
            self.is_bool(True, is_tight(ONE, index))
            self.is_bool(False, is_tight(PATH, index))
            self.is_bool(False, is_tight(((0, 1), (2, 3)), index))
        self.assertEqual([is_tight(STAR, index) for index in range(3)], [True, False, True])
        self.assertEqual([is_tight(RING, index) for index in range(3)], [True, True, True])
        # Somewhat more ways.
        self.assertEqual([is_tight(FULL, index) for index in range(3)], [True, True, True])
        self.assertEqual([is_tight(FULL + ((3, 4),), index) for index in range(3)], [False, False, False])

    def test_no_ways(self):
        wrong = without(THINGS, (0, 1)) + [
            (1, 0), [0, 1], (False, 1), (0, True), (0, 4), (1, 2), ((0, 1),), (0, 1, 1), ("0", "1"), ([], 1), ({}, {}), (0, None), (0, 10 ** 39)]
        for thing in wrong:
            self.raises(InvalidWay, without_way, STAR, thing)
            self.raises(InvalidWay, drawn, STAR, thing)
        # Two rooms without a way between them.
        self.raises(InvalidWay, drawn, RING + ((2, 3),), (0, 3))
        self.raises(InvalidWay, without_way, PARTS, (0, 3))
        self.raises(InvalidWay, drawn, ONE, (0, 0))

    def test_no_indexes(self):
        for thing in NO_INDEXES:
            self.raises(InvalidNumber, is_tight, STAR, thing)
            self.raises(InvalidNumber, is_tight, GREAT, thing)

    def test_no_caves(self):
        for thing in NO_CAVES:
            for function in (without_way, drawn):
                self.raises(InvalidCave, function, thing, (0, 1))
            for function in (trebled, numbers):
                self.raises(InvalidCave, function, thing)
            self.raises(InvalidCave, is_tight, thing, 0)

    def test_the_first_error(self):
        for cave in NO_CAVES[::6]:
            for thing in THINGS[::5]:
                self.raises(InvalidCave, without_way, cave, thing)
                self.raises(InvalidCave, drawn, cave, thing)
            for thing in NO_INDEXES[::7]:
                self.raises(InvalidCave, is_tight, cave, thing)


if __name__ == "__main__":
    unittest.main()
