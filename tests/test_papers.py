"""[18]: papers that so many searchers are not enough."""

import itertools
import unittest

from cavesweep import papers
from cavesweep.errors import InvalidCave, InvalidNumber
from cavesweep.least import least, lots
from cavesweep.papers import is_paper, paper
from support import CAVES, FULL, GREAT, NO_CAVES, NO_NUMBERS, ONE, PARTS, PATH, RING, STAR, THINGS
from support import Case, plain_cost, plain_lots, seeded, with_way


def plain_is_paper(cave, k, rows):
    """The rules of [18] for a list of lots, told anew."""
    if () not in rows or cave in rows:
        return False
    return all(
        with_way(lot, way) in rows
        for lot in rows for way in cave if way not in lot and plain_cost(cave, lot, way) <= k)


class Papers(Case):
    def test_interface(self):
        self.interface(papers, is_paper="cave k thing", paper="cave k")

    def test_examples(self):
        self.assertEqual(
            (is_paper(STAR, 1, paper(STAR, 1)), is_paper(STAR, 1, [()]), paper(STAR, 2) is None), (True, False, True))

    def test_a_paper_or_none(self):
        for cave in CAVES:
            for k in (0, 1, 2, 3, 4, 5, 20, 10 ** 40 - 1):
                found = self.call(paper, cave, k)
                self.assertEqual(found is None, k >= least(cave), (cave, k))
                if found is not None:
                    self.assertIs(type(found), list)
                    self.assertTrue(plain_is_paper(cave, k, found), (cave, k))
                    self.is_bool(True, self.call(is_paper, cave, k, found))

    def test_in_any_order_and_more_than_once(self):
        chance = seeded(181)
        for cave in CAVES:
            for k in range(least(cave)):
                rows = paper(cave, k)
                mixed = chance.sample(rows, len(rows)) + chance.choices(rows, k=5)
                self.is_bool(True, self.call(is_paper, cave, k, mixed))
                self.is_bool(True, is_paper(cave, k, rows[::-1] + rows))

    def test_one_left_out(self):
        for cave in CAVES:
            for k in range(least(cave)):
                rows = paper(cave, k)
                for at in range(len(rows))[:60]:
                    fewer = rows[:at] + rows[at + 1:]
                    self.is_bool(plain_is_paper(cave, k, fewer), is_paper(cave, k, fewer), (cave, k, at))
                self.is_bool(False, is_paper(cave, k, [lot for lot in rows if lot != ()]))

    def test_one_put_in(self):
        for cave in (ONE, PATH, STAR, RING, PARTS, FULL, ((0, 1), (0, 2), (0, 3), (1, 2))):
            every = [lot for many in range(len(cave) + 1) for lot in itertools.combinations(cave, many)]
            for k in range(least(cave)):
                rows = paper(cave, k)
                for lot in every:
                    more = [lot] + rows
                    self.is_bool(plain_is_paper(cave, k, more), self.call(is_paper, cave, k, more), (cave, k, lot))
                self.is_bool(False, is_paper(cave, k, rows + [cave]))

    def test_all_lists_of_lots_of_small_caves(self):
        for cave in (ONE, PATH, ((0, 1), (2, 3)), STAR):
            every = [lot for many in range(len(cave) + 1) for lot in itertools.combinations(cave, many)]
            for many in range(len(every) + 1):
                for rows in itertools.combinations(every, many):
                    for k in range(3):
                        worth = plain_is_paper(cave, k, rows)
                        self.is_bool(worth, is_paper(cave, k, list(rows)), (cave, k, rows))

    def test_lots_to_which_one_does_not_come(self):
        # From the lot of the two ends of the line one goes on, at a cost of 2, to more lots.
        line = ((0, 1), (1, 2), (2, 3))
        self.is_bool(True, is_paper(line, 0, [(), ((0, 1), (2, 3))]))
        self.is_bool(True, is_paper(STAR, 1, plain_lots(STAR, 1)))
        # At a cost of 1 one goes on from two clean ways of the star, to all three: such a lot counts.
        self.is_bool(False, is_paper(STAR, 1, plain_lots(STAR, 1) + [((0, 1), (0, 2))]))
        self.is_bool(True, is_paper(FULL, 2, plain_lots(FULL, 2) + [((0, 1), (2, 3))]))

    def test_if_k_are_enough_there_is_none(self):
        for cave in CAVES:
            k = least(cave)
            self.is_bool(False, is_paper(cave, k, lots(cave, k)))
            self.is_bool(False, is_paper(cave, k, [lot for lot in lots(cave, k) if lot != cave]))

    def test_no_searchers(self):
        for cave in CAVES:
            self.is_bool(True, is_paper(cave, 0, [()]))
            self.is_bool(True, is_paper(cave, 0, self.call(paper, cave, 0)))
            self.is_bool(False, is_paper(cave, 0, []))
            self.is_bool(False, is_paper(cave, 0, [(), cave]))
        self.is_bool(True, is_paper(GREAT, 0, [()]))

    def test_things_that_are_none(self):
        for thing in THINGS:
            right = isinstance(thing, list) and thing == [()]
            self.is_bool(False, self.call(is_paper, STAR, 1, thing), thing)
            self.is_bool(right, self.call(is_paper, STAR, 0, thing), thing)
        rows = paper(STAR, 1)
        equal = [
            tuple(rows), {lot: True for lot in rows}, [list(lot) for lot in rows], [[]] + rows[1:], rows + [[]], rows + [None],
            rows + [((False, 1),)], rows[:1] + [((False, 1),)] + rows[2:], rows[:1] + [([0, 1],)] + rows[2:], rows + [((1, 0),)],
            rows[:1] + [((0, True),)] + rows[2:], rows + [((0, 2), (0, 1))], rows + [((0, 1), (0, 1))], rows + [((1, 2),)],
            rows + [((0, 4),)], rows + [(0, 1)], rows + [0], rows + [{}], rows + ["0-1"], [rows], rows + [((0, 1), None)],
        ]
        for thing in equal:
            self.is_bool(False, self.call(is_paper, STAR, 1, thing), thing)
        self.is_bool(True, is_paper(STAR, 1, rows))
        self.is_bool(True, is_paper(GREAT, 1, [()] * 19000))
        self.is_bool(False, is_paper(GREAT, 2, [()] * 19000))

    def test_no_caves(self):
        for thing in NO_CAVES:
            self.raises(InvalidCave, paper, thing, 1)
            self.raises(InvalidCave, is_paper, thing, 1, [()])

    def test_no_numbers(self):
        for cave in (STAR, ONE, GREAT):
            for thing in NO_NUMBERS:
                self.raises(InvalidNumber, paper, cave, thing)
                self.raises(InvalidNumber, is_paper, cave, thing, [()])
                self.raises(InvalidNumber, is_paper, cave, thing, None)

    def test_the_first_error(self):
        for cave in NO_CAVES[::5]:
            for thing in NO_NUMBERS[::5]:
                self.raises(InvalidCave, paper, cave, thing)
                self.raises(InvalidCave, is_paper, cave, thing, thing)


if __name__ == "__main__":
    unittest.main()
