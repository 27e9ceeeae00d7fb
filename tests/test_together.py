"""What several points of the document say together."""

import unittest

from cavesweep.bags import order_by, plain_row, row_of, size_of
from cavesweep.bars import bar, is_bar
from cavesweep.errors import CannotBe, InvalidLot, InvalidScript, InvalidWay
from cavesweep.gates import comes_in, script_from
from cavesweep.hidings import hiding, is_hiding
from cavesweep.labels import number
from cavesweep.lamps import first_dark, is_lit, lamps_used, lit_by
from cavesweep.least import least, lots, sweep
from cavesweep.live import Live
from cavesweep.mixed import can_mix, is_mixed, least_mixed, mixed_by, mixed_cost_by, mixed_script, mixed_used
from cavesweep.papers import is_paper, paper
from cavesweep.roomlots import is_room_paper, room_lots, room_paper
from cavesweep.rooms import best_order, breadth, lamps_of, least_breadth
from cavesweep.scripts import can_be, is_sure, jumps, left_by, uses
from cavesweep.shortest import least_script
from cavesweep.shut import least_shut
from cavesweep.smaller import drawn, numbers, trebled, without_way
from cavesweep.steps import alike, first_foul, needless
from cavesweep.sweeps import cost_by, cost_of, script_of
from cavesweep.watches import Watch
from support import CAVES, FULL, PARTS, RING, STAR, THINGS
from support import Case, path_of, random_cave, random_order, random_steps, random_tree, rooms_in, seeded, told
from test_lamps import drawn_steps
from test_live import come
from test_roomlots import plain_is_room_paper


def pairs_without_a_way(cave):
    """Two rooms of a cave, the lesser one first, that no way joins."""
    rooms = rooms_in(cave)
    return [(room, other) for room in rooms for other in rooms if room < other and (room, other) not in cave]


class PairsWithoutAWay(Case):
    def test_costs(self):
        for cave in CAVES:
            for pair in pairs_without_a_way(cave):
                for function in (cost_by, mixed_cost_by):
                    self.raises(InvalidWay, function, cave, (), pair)
                    self.raises(InvalidLot, function, cave, (pair,), cave[0])

    def test_papers_and_bars(self):
        for cave in (STAR, PARTS, path_of(4), RING + ((2, 3),)):
            for pair in pairs_without_a_way(cave):
                self.is_bool(True, is_paper(cave, 0, [()]))
                self.is_bool(False, is_paper(cave, 0, [(), (pair,)]))
                self.is_bool(False, is_bar(cave, 0, [((), cave), ((), tuple(sorted(cave + (pair,))))]))
                # Rooms, other than ways, are a lot whether a way joins them or not.
                rows = [(), pair]
                self.is_bool(plain_is_room_paper(cave, 0, rows), is_room_paper(cave, 0, rows))

    def test_scripts(self):
        for cave in CAVES:
            for room, other in pairs_without_a_way(cave):
                for able in (can_be, can_mix):
                    self.is_bool(False, able(cave, [("set", room)], ("lead", room, other)))
                    self.is_bool(False, able(cave, [("set", other)], ("lead", other, room)))
                self.raises(InvalidScript, left_by, cave, [("set", room), ("lead", room, other)])
                self.is_bool(False, comes_in(cave, room, [("set", room), ("lead", room, other)]))

    def test_live_caves_and_watches(self):
        for cave in CAVES:
            live, watch = Live(cave), Watch(cave, "mixed")
            for room, other in pairs_without_a_way(cave):
                self.raises(InvalidWay, live.can_hide, (room, other))
                live.place(room)
                watch.place(room)
                self.raises(CannotBe, live.lead, room, other)
                self.raises(CannotBe, watch.lead, room, other)

    def test_smaller_caves(self):
        for cave in CAVES:
            for pair in pairs_without_a_way(cave):
                self.raises(InvalidWay, without_way, cave, pair)
                self.raises(InvalidWay, drawn, cave, pair)


class Scripts(Case):
    def some(self, seed, many, manner="plain"):
        chance = seeded(seed)
        for _ in range(many):
            cave = chance.choice(CAVES + [random_cave(chance, chance.randint(1, 9))])
            yield cave, random_steps(chance, cave, chance.randint(0, 30), 8, manner)

    def test_fewer_than_the_least_number_are_not_sure(self):
        sure = 0
        for cave, steps in self.some(401, 300):
            if is_sure(cave, steps):
                sure += 1
                self.assertGreaterEqual(uses(cave, steps), least(cave))
                self.assertIs(hiding(cave, steps), None)
            else:
                self.assertTrue(is_hiding(cave, steps, hiding(cave, steps)))
        self.assertGreater(sure, 20)
        for cave, steps in self.some(402, 300, "mixed"):
            if is_mixed(cave, steps):
                self.assertGreaterEqual(mixed_used(cave, steps), least_mixed(cave))
        chance = seeded(403)
        for _ in range(200):
            cave = chance.choice(CAVES[:6])
            steps = drawn_steps(chance, cave, 20)
            if is_lit(cave, steps):
                self.assertGreater(lamps_used(cave, steps), least_breadth(cave))

    def test_the_script_of_a_least_sweep(self):
        for cave in CAVES:
            ways = sweep(cave)
            steps = script_of(cave, ways)
            self.assertEqual((is_sure(cave, steps), uses(cave, steps), cost_of(cave, ways)), (True, least(cave), least(cave)))
            self.assertIs(first_foul(cave, steps), None)
            for k in range(least(cave) + 2):
                self.assertEqual(paper(cave, k) is None, k >= least(cave))
                self.assertEqual(cave in lots(cave, k), k >= least(cave))

    def test_bars_and_least_scripts_agree(self):
        chance = seeded(404)
        for _ in range(40):
            cave = random_cave(chance, chance.randint(1, 4), 5)
            for k in range(3):
                steps = least_script(cave, k, True)
                self.assertEqual((steps is None, bar(cave, k) is None), (k < least(cave), k >= least(cave)))
                if steps is not None:
                    self.assertTrue(is_sure(cave, steps))
                    # A step can be left out of a script of fewest steps only if more searchers are there then.
                    for at in needless(cave, steps):
                        self.assertGreater(uses(cave, steps[:at] + steps[at + 1:]), k)
                if len(cave) <= 3 and k:
                    self.assertEqual([[]] == least_shut(cave, k), k >= least(cave))

    def test_trees(self):
        chance = seeded(405)
        for _ in range(25):
            tree = random_tree(chance, chance.randint(1, 8))
            self.assertEqual(number(tree), least(tree))

    def test_scripts_from_gates_as_scripts(self):
        for cave in (STAR, RING, path_of(4), RING + ((2, 3), (3, 4))):
            for gate in rooms_in(cave):
                steps = script_from(cave, gate, 3)
                self.assertTrue(comes_in(cave, gate, steps))
                self.assertEqual((left_by(cave, steps)[1], uses(cave, steps) <= 3), ([], True))
                self.assertEqual((mixed_by(cave, steps)[1], mixed_used(cave, steps)), ([], uses(cave, steps)))
                jumped = least_script(cave, 3, True)
                self.assertLessEqual(len(jumped), len(steps))
                self.assertEqual(jumps(cave, steps), [step[0] for step in steps] != sorted([step[0] for step in steps], reverse=True))

    def test_alike_as_left(self):
        for cave, steps in self.some(406, 60):
            self.assertTrue(alike(cave, steps, steps + [("set", rooms_in(cave)[0]), ("take", rooms_in(cave)[0])]))


class Lamps(Case):
    def test_scripts_of_lamps_as_mixed_ones(self):
        chance = seeded(411)
        for _ in range(200):
            cave = chance.choice(CAVES + [random_cave(chance, chance.randint(1, 9))])
            steps = drawn_steps(chance, cave, chance.randint(0, 25))
            self.assertEqual(mixed_by(cave, steps), lit_by(cave, steps))
            self.assertEqual((mixed_used(cave, steps), is_mixed(cave, steps)), (lamps_used(cave, steps), is_lit(cave, steps)))
            # As scripts of [4] they make nothing clean.
            self.assertEqual(left_by(cave, steps), (lit_by(cave, steps)[0], list(cave)))

    def test_orders_into_rows_and_rows_into_orders(self):
        chance = seeded(412)
        for _ in range(80):
            cave = chance.choice(CAVES + [random_cave(chance, chance.randint(1, 12), 8)])
            order = random_order(chance, cave)
            many = breadth(cave, order)
            for row in (row_of(cave, order), plain_row(cave, row_of(cave, order))):
                self.assertEqual(size_of(cave, row), many + 1)
                again = order_by(cave, row)
                self.assertLessEqual(breadth(cave, again), many)
                steps = lamps_of(cave, again)
                self.assertEqual((is_lit(cave, steps), first_dark(cave, steps)), (True, None))
                self.assertEqual((is_mixed(cave, steps), mixed_used(cave, steps)), (True, breadth(cave, again) + 1))

    def test_lots_of_rooms_and_orders(self):
        for cave in CAVES:
            if len(rooms_in(cave)) <= 10:
                many = least_breadth(cave)
                order = best_order(cave)
                self.assertEqual([room_paper(cave, k) is None for k in (many - 1, many)], [False, True])
                for at in range(len(order) + 1):
                    self.assertIn(tuple(sorted(order[:at])), room_lots(cave, many))


class Numbers(Case):
    def test_side_by_side(self):
        chance = seeded(421)
        for cave in [cave for cave in CAVES if len(rooms_in(cave)) <= 10] + [random_cave(chance, chance.randint(1, 7)) for _ in range(12)]:
            plain, lamps, mixed = numbers(cave)
            self.assertEqual((plain, lamps, mixed), (least(cave), least_breadth(cave) + 1, least_mixed(cave)))
            self.assertTrue(mixed <= min(plain, lamps) and max(plain, lamps) <= mixed + 1)
            # A sure script of either kind is a sure mixed one.
            self.assertEqual(mixed_script(cave, mixed - 1), None)
            for steps in (script_of(cave, sweep(cave)), lamps_of(cave, best_order(cave)), mixed_script(cave, mixed)):
                self.assertTrue(is_mixed(cave, steps))
            if trebled(cave) is not None and len(cave) <= 5:
                self.assertEqual(least_breadth(trebled(cave)), plain)


class Watched(Case):
    def test_watches_and_live_caves(self):
        chance = seeded(431)
        for cave in CAVES:
            live, watch = Live(cave), Watch(cave, "mixed")
            for step in random_steps(chance, cave, 30, 4):
                self.assertIs(come(live, step), come(watch, step))
                self.assertEqual((live.steps, live.searchers, live.most, len(live)), (watch.steps, watch.searchers, watch.most, len(watch)))
                self.assertLessEqual(set(watch.foul), set(live.foul))
                self.assertEqual((watch.searchers, watch.foul), mixed_by(cave, watch.steps))
                self.assertEqual((live.searchers, live.foul), left_by(cave, live.steps))

    def test_what_no_point_takes(self):
        for thing in THINGS:
            live, watch = Live(FULL), Watch(FULL, "mixed")
            before = told((live.steps, watch.steps, watch.foul))
            for method in (live.take, watch.take):
                self.raises(CannotBe, method, thing)
            self.assertEqual(told((live.steps, watch.steps, watch.foul)), before)


if __name__ == "__main__":
    unittest.main()
