"""[3], [12]: caves, trees, rooms and parts."""

import itertools
import unittest

from cavesweep import caves
from cavesweep.caves import is_cave, is_tree, parts_of, rooms_of
from cavesweep.errors import InvalidCave
from support import CAVES, FAR, FULL, GREAT, NO_CAVES, ONE, PARTS, PATH, RING, STAR, Case, random_cave, seeded


def plain_parts(cave):
    """Parts, had by joining what shares a room as long as anything does."""
    parts = [{way} for way in cave]
    joined = True
    while joined:
        joined = False
        for one, other in itertools.combinations(parts, 2):
            if {room for way in one for room in way} & {room for way in other for room in way}:
                parts = [part for part in parts if part is not one and part is not other] + [one | other]
                joined = True
                break
    return sorted(tuple(sorted(part)) for part in parts)


class Caves(Case):
    def test_interface(self):
        self.interface(caves, is_cave="thing", is_tree="thing", rooms_of="cave", parts_of="cave")

    def test_examples(self):
        self.assertEqual(
            (is_cave(((0, 1), (0, 2))), is_cave(((1, 0),)), is_tree(((0, 1), (0, 2), (1, 2)))), (True, False, False))
        self.assertEqual(
            (rooms_of(((0, 7), (3, 9))), parts_of(((0, 7), (3, 9), (7, 8)))),
            ([0, 3, 7, 9], [((0, 7), (7, 8)), ((3, 9),)]))

    def test_caves(self):
        for cave in CAVES + [GREAT]:
            self.is_bool(True, self.call(is_cave, cave), cave)

    def test_no_caves(self):
        for thing in NO_CAVES:
            self.is_bool(False, self.call(is_cave, thing), thing)
            self.is_bool(False, self.call(is_tree, thing), thing)
            self.raises(InvalidCave, rooms_of, thing)
            self.raises(InvalidCave, parts_of, thing)

    def test_trees(self):
        double = tuple((0, n) for n in range(1, 50)) + tuple((1, n) for n in range(50, 100))
        line = tuple((n, n + 1) for n in range(99))
        for tree in (ONE, FAR, PATH, STAR, double, line, ((0, 99), (1, 99), (2, 99)), ((0, 5), (1, 4), (2, 4), (2, 5))):
            self.is_bool(True, self.call(is_tree, tree), tree)

    def test_no_trees(self):
        # The last two have one room more than ways, but do not hang together.
        for cave in (RING, PARTS, FULL, GREAT, ((0, 1), (2, 3)), RING + ((3, 4),), ((0, 1),) + ((5, 6), (5, 7), (6, 7))):
            self.is_bool(False, self.call(is_tree, cave), cave)

    def test_rooms(self):
        for cave in CAVES + [GREAT]:
            found = self.call(rooms_of, cave)
            self.assertEqual(found, sorted({room for way in cave for room in way}))
            self.assertIs(type(found), list)
        self.assertEqual(rooms_of(FAR), [0, 99])
        self.assertEqual(rooms_of(GREAT), list(range(100)))

    def test_parts(self):
        chance = seeded(12)
        some = [random_cave(chance, chance.randint(1, 12), 14) for _ in range(200)]
        for cave in CAVES + some:
            self.assertEqual(self.call(parts_of, cave), plain_parts(cave))

    def test_parts_of_one_and_of_many(self):
        self.assertEqual(parts_of(GREAT), [GREAT])
        pairs = tuple((2 * n, 2 * n + 1) for n in range(50))
        self.assertEqual(parts_of(pairs), [(way,) for way in pairs])
        self.assertEqual(parts_of(((0, 9), (1, 8), (2, 9), (3, 8))), [((0, 9), (2, 9)), ((1, 8), (3, 8))])

    def test_part_of_a_part_is_the_part(self):
        for cave in CAVES:
            for part in parts_of(cave):
                self.is_bool(True, is_cave(part))
                self.assertEqual(parts_of(part), [part])


if __name__ == "__main__":
    unittest.main()
