"""[31]: lots of rooms, and papers of them."""

import itertools
import unittest

from cavesweep import roomlots as module
from cavesweep.errors import InvalidCave, InvalidNumber
from cavesweep.roomlots import is_room_paper, room_lots, room_paper
from cavesweep.rooms import least_breadth
from support import FAR, FULL, GREAT, NO_CAVES, NO_NUMBERS, ONE, PARTS, PATH, RING, STAR, THINGS
from support import Case, path_of, plain_held, plain_room_lots, random_cave, rooms_in, seeded, star_of, told
from test_rooms import NARROW

EXAMPLES = """
>>> from cavesweep.roomlots import is_room_paper, room_lots, room_paper
>>> path, ring = ((0, 1), (1, 2)), ((0, 1), (0, 2), (1, 2))
>>> room_lots(path, 1), room_lots(ring, 1)
([(), (0,), (0, 1), (0, 1, 2), (1,), (1, 2), (2,)], [(), (0,), (1,), (2,)])
>>> is_room_paper(ring, 1, room_paper(ring, 1)), is_room_paper(ring, 1, [(), (0,)]), room_paper(path, 1) is None
(True, False, True)
"""


def plain_is_room_paper(cave, k, rows):
    """The rules of [31] for a list of lots, told anew."""
    rooms = rooms_in(cave)
    if () not in rows or tuple(rooms) in rows:
        return False
    for lot in rows:
        for room in rooms:
            larger = tuple(sorted({*lot, room}))
            if room not in lot and larger not in rows and len(plain_held(cave, larger)) <= k:
                return False
    return True


def every_lot(cave):
    rooms = rooms_in(cave)
    return [lot for many in range(len(rooms) + 1) for lot in itertools.combinations(rooms, many)]


class RoomLots(Case):
    def test_interface(self):
        self.interface(module, room_lots="cave k", is_room_paper="cave k thing", room_paper="cave k")

    def test_examples(self):
        self.has_examples(module, EXAMPLES)

    def test_lots(self):
        chance = seeded(311)
        for cave in [cave for cave in NARROW if len(rooms_in(cave)) < 8] + [random_cave(chance, chance.randint(1, 12), 7) for _ in range(10)]:
            for k in (0, 1, 2, 3, 4, 6, 10 ** 40 - 1):
                self.assertEqual(told(self.call(room_lots, cave, k)), told(plain_room_lots(cave, k)), (cave, k))
        for cave in NARROW:
            self.assertEqual(room_lots(cave, 2), plain_room_lots(cave, 2))

    def test_lots_of_many_rooms(self):
        self.assertEqual(len(room_lots(path_of(9), 10)), 1024)
        self.assertEqual(room_lots(path_of(12), 0), [()])
        self.assertEqual(len(room_lots(star_of(11), 1)), 1 + 11 + 2 ** 11)
        self.assertEqual(room_lots(FAR, 1), [(), (0,), (0, 99), (99,)])

    def test_a_paper_or_none(self):
        for cave in NARROW:
            for k in (0, 1, 2, 3, 4, 9, 10, 10 ** 40 - 1):
                found = self.call(room_paper, cave, k)
                self.assertEqual(found is None, k >= least_breadth(cave), (cave, k))
                if found is not None:
                    self.assertIs(type(found), list)
                    self.assertTrue(plain_is_room_paper(cave, k, found), (cave, k))
                    self.is_bool(True, self.call(is_room_paper, cave, k, found))

    def test_in_any_order_and_more_than_once(self):
        chance = seeded(312)
        for cave in NARROW:
            for k in range(least_breadth(cave)):
                rows = room_paper(cave, k)
                mixed = chance.sample(rows, len(rows)) + chance.choices(rows, k=5)
                self.is_bool(True, self.call(is_room_paper, cave, k, mixed))
                self.is_bool(True, is_room_paper(cave, k, rows[::-1] + rows))

    def test_one_left_out(self):
        for cave in NARROW:
            for k in range(least_breadth(cave)):
                rows = room_paper(cave, k)
                for at in list(range(len(rows)))[:30]:
                    fewer = rows[:at] + rows[at + 1:]
                    self.is_bool(plain_is_room_paper(cave, k, fewer), is_room_paper(cave, k, fewer), (cave, k, at))
                self.is_bool(False, is_room_paper(cave, k, [lot for lot in rows if lot != ()]))

    def test_one_put_in(self):
        kept = 0
        for cave in (ONE, PATH, STAR, RING, PARTS, FULL, RING + ((2, 3),), ((0, 1), (0, 2), (1, 3), (2, 3))):
            for k in range(least_breadth(cave)):
                rows = room_paper(cave, k)
                for lot in every_lot(cave):
                    more = [lot] + rows
                    worth = plain_is_room_paper(cave, k, more)
                    self.is_bool(worth, self.call(is_room_paper, cave, k, more), (cave, k, lot))
                    kept += worth and lot not in rows
                self.is_bool(False, is_room_paper(cave, k, rows + [tuple(rooms_in(cave))]))
        self.assertGreater(kept, 5)

    def test_all_lists_of_lots_of_small_caves(self):
        for cave in (ONE, PATH, RING):
            every = every_lot(cave)
            for many in range(len(every) + 1):
                for rows in itertools.combinations(every, many):
                    for k in range(3):
                        worth = plain_is_room_paper(cave, k, rows)
                        self.is_bool(worth, is_room_paper(cave, k, list(rows)), (cave, k, rows))

    def test_drawn_lists_of_lots(self):
        chance = seeded(313)
        found = 0
        for _ in range(300):
            cave = chance.choice((STAR, FULL, ((0, 1), (2, 3)), RING + ((2, 3),), path_of(3), PARTS))
            k, often = chance.randrange(4), chance.random()
            rows = [lot for lot in every_lot(cave)[1:-1] if chance.random() < often or len(plain_held(cave, lot)) <= k] + [()]
            worth = plain_is_room_paper(cave, k, rows)
            self.is_bool(worth, self.call(is_room_paper, cave, k, rows), (cave, k, rows))
            found += worth
        self.assertTrue(10 < found < 290, found)

    def test_lots_to_which_one_does_not_come(self):
        # From the two ends one goes on to three rooms of which one is held, so these would have to stand, too.
        line = path_of(3)
        self.is_bool(True, is_room_paper(line, 0, [(), (0, 3)]))
        self.is_bool(False, is_room_paper(RING, 1, room_lots(RING, 1) + [(0, 1)]))
        self.is_bool(True, is_room_paper(FULL, 1, room_lots(FULL, 1) + [(0, 1)]))
        self.is_bool(False, is_room_paper(FULL, 1, room_lots(FULL, 1) + [(0, 1, 2)]))

    def test_great_caves(self):
        rows = [()] + [(room,) for room in range(100)]
        self.is_bool(True, is_room_paper(GREAT, 1, rows))
        self.is_bool(False, is_room_paper(GREAT, 2, rows))
        self.is_bool(False, is_room_paper(GREAT, 1, rows[:-1]))
        pairs = list(itertools.combinations(range(100), 2))
        self.is_bool(True, is_room_paper(GREAT, 2, rows + pairs))
        self.is_bool(False, is_room_paper(GREAT, 10 ** 39, rows + pairs))
        self.is_bool(True, is_room_paper(GREAT, 0, [()] * 19000))
        self.is_bool(True, is_room_paper(star_of(99), 0, [()]))
        self.is_bool(False, is_room_paper(star_of(99), 1, rows))

    def test_if_the_breadth_is_enough_there_is_none(self):
        for cave in NARROW:
            k = least_breadth(cave)
            rows = room_lots(cave, k)
            self.is_bool(False, is_room_paper(cave, k, rows))
            self.is_bool(False, is_room_paper(cave, k, rows[:-1]))
            self.is_bool(False, is_room_paper(cave, k, [lot for lot in rows if len(lot) < len(rooms_in(cave))]))

    def test_none_held(self):
        for cave in NARROW + [GREAT, path_of(99)]:
            self.assertEqual(room_lots(cave, 0), [()])
            self.assertEqual(room_paper(cave, 0), [()])
            self.is_bool(True, is_room_paper(cave, 0, [()]))
            self.is_bool(False, is_room_paper(cave, 0, []))
            self.is_bool(False, is_room_paper(cave, 0, [(), tuple(rooms_in(cave))]))

    def test_things_that_are_none(self):
        for thing in THINGS:
            right = isinstance(thing, list) and thing == [()]
            self.is_bool(False, self.call(is_room_paper, RING, 1, thing), thing)
            self.is_bool(right, self.call(is_room_paper, RING, 0, thing), thing)
        rows = room_paper(RING, 1)
        self.assertEqual(rows, [(), (0,), (1,), (2,)])
        equal = [
            tuple(rows), {lot: True for lot in rows}, [list(lot) for lot in rows], [[]] + rows[1:], rows + [[]], rows + [None],
            [(), (False,), (1,), (2,)], [(), (0,), (True,), (2,)], [(), [0], (1,), (2,)], [(), 0, 1, 2], rows + [(1, 0)], rows + [(0, 0)],
            rows + [(3,)], rows + [(0, 3)], rows + [(-1,)], rows + [(10 ** 39,)], rows + [("0",)], rows + [(None,)], rows + [([],)], rows + [({},)],
            rows + [((0,),)], rows + [((),)], rows + [{}], rows + [0], rows + ["0"], [rows], rows + [(0, None)], rows + [(0, [1])], rows + [(1.0,)],
        ]
        for thing in equal:
            self.is_bool(False, self.call(is_room_paper, RING, 1, thing), thing)
        self.is_bool(True, is_room_paper(RING, 1, rows))

    def test_results_are_new(self):
        before = told((room_lots(RING, 1), room_paper(RING, 1)))
        room_lots(RING, 1).clear()
        room_paper(RING, 1).clear()
        self.assertEqual(told((room_lots(RING, 1), room_paper(RING, 1))), before)

    def test_no_caves(self):
        for thing in NO_CAVES:
            self.raises(InvalidCave, room_lots, thing, 1)
            self.raises(InvalidCave, room_paper, thing, 1)
            self.raises(InvalidCave, is_room_paper, thing, 1, [()])

    def test_no_numbers(self):
        for cave in (STAR, ONE, GREAT[:200]):
            for thing in NO_NUMBERS:
                self.raises(InvalidNumber, room_lots, cave, thing)
                self.raises(InvalidNumber, room_paper, cave, thing)
                self.raises(InvalidNumber, is_room_paper, cave, thing, [()])
                self.raises(InvalidNumber, is_room_paper, cave, thing, None)

    def test_the_first_error(self):
        for cave in NO_CAVES[::5]:
            for thing in NO_NUMBERS[::5]:
                self.raises(InvalidCave, room_lots, cave, thing)
                self.raises(InvalidCave, room_paper, cave, thing)
                self.raises(InvalidCave, is_room_paper, cave, thing, thing)


if __name__ == "__main__":
    unittest.main()
