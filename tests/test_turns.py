"""[2]: a call answers the same whatever was asked, changed or led between."""

import copy
import unittest

from cavesweep.bags import is_row, order_by, plain_row, row_of, size_of
from cavesweep.bars import bar, is_bar
from cavesweep.caves import is_cave, is_tree, parts_of, rooms_of
from cavesweep.errors import CaveError
from cavesweep.gates import best_gates, comes_in, least_from, script_from
from cavesweep.grown import grown_cave, grown_label, grown_number, grown_ways, is_book, least_depth
from cavesweep.hidings import hiding, is_hiding
from cavesweep.labels import branch_label, is_label, joined, number, top
from cavesweep.lamps import can_light, first_dark, is_lit, lamps_used, lit_by
from cavesweep.least import least, lots, sweep
from cavesweep.live import Live
from cavesweep.mixed import can_mix, is_mixed, least_mixed, mixed_by, mixed_cost_by, mixed_script, mixed_used
from cavesweep.nests import is_nest, nest
from cavesweep.papers import is_paper, paper
from cavesweep.roomlots import is_room_paper, room_lots, room_paper
from cavesweep.rooms import best_order, breadth, held_rooms, lamps_of, least_breadth
from cavesweep.scripts import can_be, is_sure, jumps, left_by, uses
from cavesweep.shell import Shell
from cavesweep.shortest import least_script
from cavesweep.shut import least_shut
from cavesweep.smaller import drawn, is_tight, numbers, trebled, without_way
from cavesweep.steps import alike, first_foul, needless
from cavesweep.sweeps import cost_by, cost_of, script_of
from cavesweep.texts import format_cave, format_script, parse_cave, parse_script
from cavesweep.watches import Watch
from support import FULL, PARTS, PATH, RING, STAR
from support import Case, random_order, random_steps, random_tree, seeded, told
from test_lamps import drawn_steps
from test_live import come
from test_watches import LEFT_BY, Model

BOOK = (("leaf", ()), ("three", ("three", "three", "three")), ("two", ("two", "leaf", "two")))


def caves_calls(cave):
    """Calls of the functions of a cave alone."""
    return [(function, cave) for function in (is_cave, is_tree, rooms_of, parts_of, format_cave, least, sweep, number)] + [
        (function, cave, k) for function in (lots, paper, least_shut, nest) for k in (0, 1, 2, 3)] + [
        (is_paper, cave, 1, [()]), (is_nest, cave, 1, cave[0]), (parse_cave, format_cave(cave)), (branch_label, cave, *cave[0]),
        (cost_by, cave, (), cave[0]), (cost_of, cave, list(cave)), (script_of, cave, list(cave)), (is_nest, cave, 2, None),
        (least_script, cave, 2, True), (least_script, cave, 2, False), (least_script, cave, 1, 0)]


def steps_calls(cave, steps, other):
    """Calls of the functions of a script."""
    functions = (format_script, left_by, uses, is_sure, jumps, hiding, needless, first_foul)
    return [(function, cave, steps) for function in functions] + [
        (alike, cave, steps, other), (alike, cave, other, steps), (alike, cave, steps, list(steps)), (can_be, cave, steps, ("take", 0)),
        (is_hiding, cave, steps, [cave[0]] * (len(steps) + 1)), (parse_script, cave, format_script(cave, other)), (needless, cave, steps + [0])]


def rooms_calls(chance, cave):
    """Calls of the functions of lamps, rooms, bags, and what is beside them."""
    order, lit, mixed = random_order(chance, cave), drawn_steps(chance, cave, 9), random_steps(chance, cave, 9, 4, "mixed")
    row = row_of(cave, order)
    functions = (least_breadth, best_order, least_mixed, best_gates, trebled, numbers)
    return [(function, cave) for function in functions] + [
        (function, cave, lit) for function in (lit_by, lamps_used, is_lit, first_dark)] + [
        (function, cave, mixed) for function in (mixed_by, mixed_used, is_mixed, lit_by)] + [
        (function, cave, order) for function in (breadth, lamps_of, row_of, size_of)] + [
        (function, cave, row) for function in (is_row, size_of, order_by, plain_row, breadth)] + [
        (function, cave, k) for function in (bar, room_lots, room_paper, mixed_script, is_tight) for k in (0, 1, 2, -1)] + [
        (can_light, cave, lit, ("take", order[0])), (can_mix, cave, mixed, ("lead", *cave[0])), (held_rooms, cave, order, 2),
        (is_bar, cave, 1, [((), cave)]), (is_bar, cave, 1, bar(cave, 1)), (is_room_paper, cave, 1, room_paper(cave, 1)),
        (mixed_cost_by, cave, cave[:1], cave[-1]), (comes_in, cave, order[0], mixed), (least_from, cave, order[0]), (least_from, cave, True),
        (script_from, cave, order[0], 2), (script_from, cave, order[0], 1), (without_way, cave, cave[-1]), (drawn, cave, cave[0]), (drawn, cave, 0)]


def all_calls(chance):
    calls = [
        (is_label, (3, 1)), (joined, []), (joined, [(3, 1), (2,), (2,)]), (top, [(2, 1), (2,)]), (top, []), (is_book, BOOK), (is_book, [BOOK])]
    for name in ("leaf", "three", "two", "four"):
        calls += [(function, BOOK, name, depth) for function in (grown_label, grown_number, grown_ways, grown_cave) for depth in (0, 2, 4, -1)]
        calls += [(least_depth, BOOK, name, k) for k in (1, 4, 0)]
    for cave in [PATH, STAR, RING, PARTS, FULL[:4], random_tree(chance, 4)]:
        calls += caves_calls(cave) + rooms_calls(chance, cave)
        for _ in range(3):
            calls += steps_calls(cave, random_steps(chance, cave, 9), random_steps(chance, cave, 4))
    return calls


def answer(call):
    """What a call returns, or which error it raises."""
    try:
        return call[0](*call[1:])
    except CaveError as error:
        return type(error).__name__


class Turns(Case):
    def test_questions_in_turns(self):
        chance = seeded(2)
        calls = all_calls(chance)
        first = [told(answer(call)) for call in calls]
        before = told([call[1:] for call in calls])
        live, shell, steps = Live(STAR), Shell(), []
        shell.run("open main 0-1,0-2,0-3")
        for _ in range(6):
            for at in chance.sample(range(len(calls)), len(calls)):
                found = answer(calls[at])
                self.assertEqual(told(found), first[at], calls[at])
                self.spoil(found)
                if chance.random() < 0.1:
                    self.go_on(chance, live, steps, shell)
        self.assertEqual(told([call[1:] for call in calls]), before)
        self.assertGreater(len(steps), 10)

    def go_on(self, chance, live, steps, shell):
        """A step of a live cave and of one in a shell, which are held against the functions."""
        if steps and chance.random() < 0.3:
            live.undo()
            self.assertEqual(shell.run("undo main"), "ok")
            steps.pop()
        else:
            room = chance.randrange(4)
            live.place(room)
            self.assertEqual(shell.run(f"set main {room}"), "ok")
            steps.append(("set", room))
        self.assertEqual(live.steps, steps)
        self.assertEqual((live.searchers, live.foul), left_by(STAR, steps))
        self.assertEqual(shell.run("searchers main"), " ".join(map(str, live.searchers)) or "none")
        for rows in (live.steps, live.searchers, live.foul):
            self.spoil(rows)

    def test_questions_over_two_caves_and_watches_beside_them(self):
        chance = seeded(4)
        caves = [RING + ((2, 3),), PARTS]
        calls = [call for cave in caves for call in rooms_calls(chance, cave) + caves_calls(cave)]
        first = [told(answer(call)) for call in calls]
        pairs = [(Watch(cave, kind), Model(cave, kind)) for cave in caves for kind in LEFT_BY]
        for _ in range(5):
            for at in chance.sample(range(len(calls)), len(calls)):
                found = answer(calls[at])
                self.assertEqual(told(found), first[at], calls[at])
                self.spoil(found)
                self.watch_on(chance, *chance.choice(pairs))
        for watch, model in pairs:
            self.assertEqual(watch.steps, model.steps)
            self.assertGreater(len(model.steps), 3)

    def watch_on(self, chance, watch, model):
        """A call of a watch, which is held against the functions; its lists are changed."""
        if model.steps and chance.random() < 0.3:
            watch.undo()
            model.undone.append(model.steps.pop())
        elif model.undone and chance.random() < 0.4:
            watch.redo()
            model.steps.append(model.undone.pop())
        else:
            step = chance.choice(model.able())
            come(watch, step)
            model.steps.append(step)
            model.undone = []
        self.assertEqual(told((watch.searchers, watch.foul)), told(LEFT_BY[watch.kind](model.cave, model.steps)))
        for rows in (watch.steps, watch.searchers, watch.foul, watch.needed):
            self.spoil(rows)

    def test_what_was_passed_may_change_later(self):
        chance = seeded(3)
        for call in all_calls(chance):
            arguments = copy.deepcopy(call[1:])
            found = answer((call[0], *arguments))
            kept = told(found)
            for argument in arguments:
                self.spoil(argument)
            self.assertEqual(told(found), kept, call)


if __name__ == "__main__":
    unittest.main()
