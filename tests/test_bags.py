"""[30]: rows of bags."""

import itertools
import unittest

from cavesweep import bags as module
from cavesweep.bags import is_row, order_by, plain_row, row_of, size_of
from cavesweep.errors import InvalidCave, InvalidOrder, InvalidRow
from cavesweep.rooms import best_order, breadth, least_breadth
from support import CAVES, FAR, FULL, GREAT, NO_CAVES, ONE, PARTS, PATH, RING, STAR, THINGS
from support import Case, path_of, plain_breadth, plain_held, random_cave, random_order, rooms_in, seeded, told
from test_rooms import NARROW, NO_ORDERS

EXAMPLES = """
>>> from cavesweep.bags import is_row, order_by, plain_row, row_of, size_of
>>> path = ((0, 1), (1, 2))
>>> row_of(path, [0, 1, 2]), row_of(path, [2, 0, 1]), size_of(path, [(0, 1), (1, 2)])
([(0,), (0, 1), (1, 2)], [(2,), (0, 2), (0, 1, 2)], 2)
>>> is_row(path, [(0, 1), (1,), (1, 2)]), is_row(path, [(0, 1), (2,), (1, 2)]), is_row(path, [(0, 1), (2,)])
(True, False, False)
>>> order_by(path, [(1, 2), (0, 1)]), plain_row(path, [(0,), (0, 1), (0, 1), (1,), (1, 2)])
([1, 2, 0], [(0, 1), (1, 2)])
"""


def plain_is_row(cave, row):
    """The rules of [30] for a list of tuples of rooms, told anew."""
    rooms = rooms_in(cave)
    for bag in row:
        if not bag or list(bag) != sorted(set(bag)) or not set(bag) <= set(rooms):
            return False
    for room in rooms:
        places = [at for at, bag in enumerate(row) if room in bag]
        if not places or places != list(range(places[0], places[-1] + 1)):
            return False
    return all(any(set(way) <= set(bag) for bag in row) for way in cave)


def plain_plain_row(row):
    """The row that is left, looked through from the beginning each time."""
    row = list(row)
    while True:
        for at, bag in enumerate(row):
            beside = row[at - 1:at] if at else []
            if any(set(bag) <= set(other) for other in beside + row[at + 1:at + 2]):
                row = row[:at] + row[at + 1:]
                break
        else:
            return row


def plain_order(row):
    """The order in which rooms stand first, those of one bag ascending."""
    places = {}
    for at, bag in enumerate(row):
        for room in bag:
            places.setdefault(room, at)
    return sorted(places, key=lambda room: (places[room], room))


def random_row(chance, cave):
    """A row of a cave: each room from one place to another, so that the ends of each way meet."""
    many = chance.randint(1, 9)
    spans = {room: sorted(chance.choices(range(many), k=2)) for room in rooms_in(cave)}
    for room, other in cave:
        if spans[room][1] < spans[other][0]:
            spans[room][1] = spans[other][0]
        elif spans[other][1] < spans[room][0]:
            spans[other][1] = spans[room][0]
    row = [tuple(room for room in rooms_in(cave) if spans[room][0] <= at <= spans[room][1]) for at in range(many)]
    return [bag for bag in row if bag]


def bent(chance, cave, row):
    """A row with something changed."""
    row = list(row)
    at = chance.randrange(len(row))
    room = chance.choice(rooms_in(cave))
    kind = chance.randrange(9)
    if kind == 0:
        del row[at]
    elif kind == 1:
        row.insert(chance.randint(0, len(row)), row[at])
    elif kind == 2:
        row[at] = tuple(other for other in row[at] if other != room)
    elif kind == 3:
        row[at] = tuple(sorted({*row[at], room}))
    elif kind == 4:
        row[at] = row[at][::-1]
    elif kind == 5:
        row.insert(at, ())
    elif kind == 6:
        row.reverse()
    elif kind == 7:
        row[at] = row[at] + (row[at][-1],)
    else:
        other = chance.randrange(len(row))
        row[at], row[other] = row[other], row[at]
    return row


class Bags(Case):
    def test_interface(self):
        self.interface(
            module, is_row="cave thing", size_of="cave row", order_by="cave row", plain_row="cave row", row_of="cave rooms")

    def test_examples(self):
        self.has_examples(module, EXAMPLES)

    def check(self, cave, row):
        """What is told of a list of bags; whether it is a row."""
        worth = plain_is_row(cave, row)
        self.is_bool(worth, self.call(is_row, cave, row), (cave, row))
        if not worth:
            for function in (size_of, order_by, plain_row):
                self.raises(InvalidRow, function, cave, row)
            return False
        self.assertEqual(told(self.call(size_of, cave, row)), told(max(len(bag) for bag in row)))
        order = self.call(order_by, cave, row)
        self.assertEqual(told(order), told(plain_order(row)), (cave, row))
        self.assertLess(plain_breadth(cave, order), size_of(cave, row))
        left = self.call(plain_row, cave, row)
        self.assertEqual(told(left), told(plain_plain_row(row)), (cave, row))
        self.assertTrue(plain_is_row(cave, left))
        self.assertEqual(size_of(cave, left), size_of(cave, row))
        self.assertEqual(plain_row(cave, left), left)
        return True

    def test_drawn_rows(self):
        chance = seeded(301)
        for _ in range(250):
            cave = chance.choice(CAVES + [random_cave(chance, chance.randint(1, 12), 7)])
            self.assertTrue(self.check(cave, random_row(chance, cave)))

    def test_bent_rows(self):
        chance = seeded(302)
        found = []
        for _ in range(900):
            cave = chance.choice(CAVES + [random_cave(chance, chance.randint(1, 9), 5)])
            row = bent(chance, cave, random_row(chance, cave))
            if row and chance.random() < 0.3 and all(row):
                row = bent(chance, cave, row)
            found.append(self.check(cave, row))
        self.assertTrue(100 < sum(found) < 800, sum(found))

    def test_all_rows_of_small_caves(self):
        for cave, most in ((ONE, 4), (PATH, 3), (RING, 3), (((0, 1), (2, 3)), 2)):
            rooms = rooms_in(cave)
            bags = [bag for many in range(len(rooms) + 1) for bag in itertools.combinations(rooms, many)]
            for many in range(most + 1):
                for row in itertools.product(bags, repeat=many):
                    worth = plain_is_row(cave, row)
                    self.is_bool(worth, is_row(cave, list(row)), (cave, row))
                    if worth:
                        self.assertEqual(plain_row(cave, list(row)), plain_plain_row(row), (cave, row))
                        self.assertEqual(order_by(cave, list(row)), plain_order(row), (cave, row))

    def test_from_an_order_to_a_row_and_back(self):
        chance = seeded(303)
        for _ in range(120):
            cave = chance.choice(CAVES + [random_cave(chance, chance.randint(1, 12), 7)])
            order = random_order(chance, cave)
            row = self.call(row_of, cave, order)
            expected = [tuple(sorted(plain_held(cave, order[:at]) + [order[at]])) for at in range(len(order))]
            self.assertEqual(told(row), told(expected), (cave, order))
            self.assertTrue(self.check(cave, row))
            self.assertEqual(size_of(cave, row), breadth(cave, order) + 1)
            self.assertEqual(order_by(cave, row), order)
            self.assertLess(breadth(cave, order_by(cave, plain_row(cave, row))), size_of(cave, row))

    def test_the_least_size_of_a_row(self):
        for cave in (ONE, PATH, RING, ((0, 1), (2, 3)), path_of(3)):
            rooms = rooms_in(cave)
            bags = [bag for many in range(1, len(rooms) + 1) for bag in itertools.combinations(rooms, many)]
            sizes = [
                max(len(bag) for bag in row)
                for many in range(1, 4) for row in itertools.permutations(bags, many) if plain_is_row(cave, row)]
            self.assertEqual(min(sizes), least_breadth(cave) + 1)
        for cave in NARROW:
            row = row_of(cave, best_order(cave))
            self.assertEqual(size_of(cave, row), least_breadth(cave) + 1)
            self.assertEqual(breadth(cave, order_by(cave, plain_row(cave, row))), least_breadth(cave))

    def test_one_bag_of_all(self):
        for cave in CAVES + [GREAT]:
            row = [tuple(rooms_in(cave))]
            self.assertTrue(self.check(cave, row) if cave != GREAT else is_row(cave, row))
            self.assertEqual((order_by(cave, row), plain_row(cave, row * 7)), (rooms_in(cave), row))
            self.is_bool(False, is_row(cave, [tuple(rooms_in(cave)[1:])]))
            self.is_bool(False, is_row(cave, row + [()]))
            self.is_bool(False, is_row(cave, []))

    def test_which_of_two_is_left_out(self):
        self.assertEqual(plain_row(PATH, [(0, 1), (0, 1, 2), (1, 2)]), [(0, 1, 2)])
        self.assertEqual(plain_row(PATH, [(0,), (0, 1), (1,), (1, 2), (2,)]), [(0, 1), (1, 2)])
        self.assertEqual(plain_row(ONE, [(0,), (0, 1), (1,), (1,)]), [(0, 1)])
        self.assertEqual(plain_row(STAR, [(0, 1), (0, 1), (0, 1, 2, 3), (0,), (0,)]), [(0, 1, 2, 3)])
        self.assertEqual(plain_row(STAR, [(0,), (0, 1), (0, 1, 2), (0, 1, 2, 3), (0, 3), (3,)]), [(0, 1, 2, 3)])
        self.assertEqual(plain_row(STAR, [(0, 1), (0,), (0, 2), (0,), (0, 3)]), [(0, 1), (0, 2), (0, 3)])
        self.assertEqual(plain_row(RING, [(0, 1), (0, 1), (0, 1, 2), (0, 1), (0, 1)]), [(0, 1, 2)])

    def test_long_rows(self):
        row = [(0, 1)] * 3000 + [(1,)] * 3000 + [(1, 2)] * 3000
        self.assertEqual(plain_row(PATH, row), [(0, 1), (1, 2)])
        self.assertEqual((size_of(PATH, row), order_by(PATH, row)), (2, [0, 1, 2]))
        self.is_bool(False, is_row(PATH, row + [(0, 1)]))
        line = path_of(99)
        row = row_of(line, list(range(100)))
        self.assertEqual(plain_row(line, row * 1), list(line))
        self.assertEqual(order_by(line, list(line)[::-1]), [98, 99] + list(range(97, -1, -1)))

    def test_things_that_are_none(self):
        for thing in THINGS:
            self.is_bool(False, self.call(is_row, STAR, thing), thing)
            for function in (size_of, order_by, plain_row):
                self.raises(InvalidRow, function, STAR, thing)
        equal = [
            ((0, 1), (1, 2)), [[0, 1], (1, 2)], [(0, 1), [1, 2]], [(False, 1), (1, 2)], [(0, True), (1, 2)], [(0, 1), (True, 2)], [(1, 0), (1, 2)],
            [(0, 1), (1, 2), ()], [(0, 1), (1, 2), None], [(0, 1), (1, 2), 2], [(0, 1), (1, 2), "2"], [(0, 1), (1, 2), (3,)], [(0, 1), (1, 2, 3)],
            [(0, 1), (1, 1, 2)], [(0, 1), (1, "2")], [(0, 1), (1, None)], [(0, 1), (1, [2])], [(0, 1), (1, {})], {(0, 1): 0, (1, 2): 1}, [[(0, 1), (1, 2)]],
            [(0, 1), (2,)], [(0,), (1, 2)], [(0, 1)], [(1, 2)], [(0, 1), (1, 2), (0,)], [(0, 1, 2), (-1,)], [(0, 1, 2), (10 ** 39,)], [(0, 1, 2), (100,)],
            [(0, 1, 2), ((0, 1),)], [(0,), (1,), (2,)], [(2, 1, 0)], "0-1 1-2", [PATH], PATH,
        ]
        for thing in equal:
            self.is_bool(False, self.call(is_row, PATH, thing), thing)
            for function in (size_of, order_by, plain_row):
                self.raises(InvalidRow, function, PATH, thing)
        self.is_bool(True, is_row(PATH, list(PATH)))
        self.is_bool(True, is_row(FAR, [(0, 99)]))
        self.is_bool(False, is_row(FAR, [(0, 1), (1, 99)]))
        self.is_bool(True, is_row(PARTS, [(0, 7), (7, 8), (3, 9)]))
        self.is_bool(False, is_row(FULL, list(FULL)))

    def test_no_orders(self):
        for thing in NO_ORDERS:
            self.raises(InvalidOrder, row_of, STAR, thing)

    def test_no_caves(self):
        for thing in NO_CAVES:
            for function in (is_row, size_of, order_by, plain_row, row_of):
                self.raises(InvalidCave, function, thing, [(0, 1)])
                self.raises(InvalidCave, function, thing, [0, 1])

    def test_the_first_error(self):
        for cave in NO_CAVES[::6]:
            for thing in THINGS[::6]:
                for function in (is_row, size_of, order_by, plain_row, row_of):
                    self.raises(InvalidCave, function, cave, thing)


if __name__ == "__main__":
    unittest.main()
