"""[25]: live caves."""

import inspect
import unittest

from cavesweep import live as module
from cavesweep.errors import CannotBe, InvalidCave, InvalidWay, NothingToUndo
from cavesweep.hidings import hiding, is_hiding
from cavesweep.live import Live
from cavesweep.scripts import can_be, left_by, uses
from support import CAVES, FAR, GREAT, NO_CAVES, ONE, PARTS, PATH, RING, STAR, THINGS
from support import Case, Plain, path_of, random_cave, seeded, told, way_of

EXAMPLES = """
>>> from cavesweep.live import Live
>>> live = Live(((0, 1), (1, 2)))
>>> live.place(0), live.lead(0, 1), live.foul, live.can_hide((0, 1)), live.most
(None, None, [(1, 2)], False, 1)
>>> live.take(1), live.foul, live.undo(), live.searchers, len(live)
(None, [(0, 1), (1, 2)], None, [1], 2)
"""


def come(live, step):
    """Let a step come as the method of its name does."""
    if step[0] == "set":
        return live.place(step[1])
    if step[0] == "take":
        return live.take(step[1])
    return live.lead(step[1], step[2])


def plain_hides(cave, steps):
    """The ways on which somebody can be who was never met, going along with all of them at once."""
    ways = set(cave)
    play = Plain(cave)
    for step in steps:
        play.go(step)
        if step[0] == "lead":
            ways.discard(way_of(step))
        free = play.rooms - set(play.searchers)
        while True:
            more = {way for way in cave if any(set(way) & set(other) & free for other in ways)}
            if more <= ways:
                break
            ways |= more
    return ways


def shown(live):
    return (live.steps, live.searchers, live.foul, live.most, len(live))


class Lives(Case):
    def test_interface(self):
        self.assertEqual(str(inspect.signature(Live)), "(cave)")
        for name, arguments in (("place", "room"), ("take", "room"), ("lead", "room other"), ("can_hide", "way"), ("undo", ""), ("copy", "")):
            self.assertEqual(" ".join(inspect.signature(vars(Live)[name]).parameters), ("self " + arguments).strip())
        for name in ("steps", "searchers", "foul", "most"):
            self.assertIsInstance(vars(Live)[name], property)
        self.assertIn("__len__", vars(Live))
        self.assertEqual(Live.__module__, module.__name__)

    def test_examples(self):
        self.has_examples(module, EXAMPLES)
        live = Live(PATH)
        live.place(0)
        live.lead(0, 1)
        self.refuses(CannotBe, live, live.lead, 0, 2)

    def refuses(self, error, live, method, *arguments):
        """That a call is refused, and changes nothing."""
        before = told(shown(live))
        self.raises(error, method, *arguments)
        self.assertEqual(told(shown(live)), before)

    def check(self, live, cave, steps):
        """That a live cave shows what the functions say of its script."""
        searchers, foul = left_by(cave, steps)
        self.assertEqual(told(shown(live)), told((steps, searchers, foul, uses(cave, steps), len(steps))))
        self.assertIs(type(len(live)), int)

    def draw(self, chance, live, steps):
        """Some call, with the same done to the list of steps."""
        play = Plain(self.cave)
        for step in steps:
            play.go(step)
        if chance.random() < 0.3 and steps:
            self.assertIs(live.undo(), None)
            steps.pop()
            return
        step = chance.choice(play.all_steps())
        self.assertIs(come(live, step), None)
        steps.append(step)

    def test_long_rows_of_calls(self):
        chance = seeded(251)
        for cave in CAVES + [random_cave(chance, 8) for _ in range(10)]:
            self.cave = cave
            live, steps = Live(cave), []
            for _ in range(60):
                self.draw(chance, live, steps)
                self.check(live, cave, steps)

    def test_undo_down_to_the_first_step_and_beyond(self):
        chance = seeded(252)
        for cave in CAVES + [random_cave(chance, 9) for _ in range(20)]:
            live, rows = Live(cave), []
            for _ in range(40):
                rows.append(told(shown(live)))
                play = Plain(cave)
                for step in live.steps:
                    play.go(step)
                able = play.all_steps()
                come(live, chance.choice(able + [step for step in able if step[0] == "lead"] * 5))
            while rows:
                self.assertIs(live.undo(), None)
                self.assertEqual(told(shown(live)), rows.pop())
            for _ in range(3):
                self.refuses(NothingToUndo, live, live.undo)
            live.place(cave[0][0])
            self.check(live, cave, [("set", cave[0][0])])

    def test_copies_go_on_apart(self):
        chance = seeded(253)
        for cave in CAVES:
            self.cave = cave
            lives = [(Live(cave), [])]
            for _ in range(40):
                live, steps = chance.choice(lives)
                if chance.random() < 0.15:
                    twin = live.copy()
                    self.assertIs(type(twin), Live)
                    self.check(twin, cave, steps)
                    lives.append((twin, list(steps)))
                self.draw(chance, live, steps)
            for live, steps in lives:
                self.check(live, cave, steps)
                while steps:
                    live.undo()
                    steps.pop()
                    self.check(live, cave, steps)
                self.refuses(NothingToUndo, live, live.undo)

    def test_undo_in_a_copy(self):
        live = Live(PATH)
        for step in (("set", 0), ("lead", 0, 1), ("take", 1)):
            come(live, step)
        twin = live.copy()
        twin.undo()
        self.assertEqual((live.foul, twin.foul), ([(0, 1), (1, 2)], [(1, 2)]))
        live.undo()
        live.lead(1, 2)
        self.assertEqual((live.foul, twin.foul, live.searchers, twin.searchers), ([], [(1, 2)], [2], [1]))
        self.assertEqual((len(live), len(twin), live.most, twin.most), (3, 2, 1, 1))

    def test_can_hide(self):
        chance = seeded(254)
        for cave in CAVES:
            self.cave = cave
            live, steps = Live(cave), []
            for _ in range(25):
                self.draw(chance, live, steps)
                hides = plain_hides(cave, steps)
                for way in cave:
                    before = told(shown(live))
                    self.is_bool(way in hides, live.can_hide(way), (cave, steps, way))
                    self.is_bool(way in hides, live.can_hide(way=way))
                    self.assertEqual(told(shown(live)), before)
                found = hiding(cave, steps)
                self.assertEqual(found is None, not hides)
                if found is not None:
                    self.assertTrue(is_hiding(cave, steps, found) and live.can_hide(found[-1]))

    def test_at_first(self):
        for cave in CAVES + [GREAT]:
            live = Live(cave)
            self.assertEqual(told(shown(live)), told(([], [], list(cave), 0, 0)))
            self.assertTrue(all(live.can_hide(way) for way in cave))
            self.refuses(NothingToUndo, live, live.undo)

    def test_most_after_undo(self):
        live = Live(STAR)
        for room in (0, 1, 2):
            live.place(room)
        live.take(0)
        live.take(1)
        self.assertEqual(live.most, 3)
        for most in (3, 3, 2, 1, 0):
            live.undo()
            self.assertEqual(live.most, most)

    def test_undo_of_leads(self):
        # A lead along a foul way that becomes foul at once, one along a clean way, one that fouls others.
        live = Live(RING)
        live.place(0)
        live.lead(0, 1)
        self.assertEqual(live.foul, list(RING))
        live.undo()
        self.assertEqual((live.foul, live.searchers), (list(RING), [0]))
        for step in (("set", 0), ("lead", 0, 1), ("lead", 1, 2)):
            come(live, step)
        self.assertEqual(live.foul, [(0, 2)])
        live.lead(2, 1)
        self.assertEqual(live.foul, [(0, 2), (1, 2)])
        live.undo()
        self.assertEqual((live.foul, live.searchers), ([(0, 2)], [0, 2]))
        live.undo()
        self.assertEqual((live.foul, live.searchers), ([(0, 2), (1, 2)], [0, 1]))

    def test_lists_are_new_each_time(self):
        live = Live(PARTS)
        for step in (("set", 7), ("set", 3), ("lead", 3, 9)):
            come(live, step)
        for name in ("steps", "searchers", "foul"):
            before = told(getattr(live, name))
            self.assertIsNot(getattr(live, name), getattr(live, name))
            getattr(live, name).append("spoiled")
            getattr(live, name).clear()
            self.assertEqual(told(getattr(live, name)), before)
        steps, twin = live.steps, live.copy()
        twin.steps.clear()
        live.undo()
        self.assertEqual((len(steps), len(live), len(twin)), (3, 2, 3))

    def test_what_cannot_be(self):
        live = Live(STAR)
        for thing in THINGS:
            if type(thing) is not int or not 0 <= thing <= 3:
                self.refuses(CannotBe, live, live.place, thing)
            self.refuses(CannotBe, live, live.take, thing)
            self.refuses(CannotBe, live, live.lead, thing, 0)
            self.refuses(CannotBe, live, live.lead, 0, thing)
        live.place(0)
        live.place(1)
        for thing in THINGS:
            if type(thing) is not int or thing not in (0, 1):
                self.refuses(CannotBe, live, live.take, thing)
                self.refuses(CannotBe, live, live.lead, thing, 0)
                self.refuses(CannotBe, live, live.lead, 1, thing)
            if type(thing) is not int or thing not in (1, 2):
                self.refuses(CannotBe, live, live.lead, 0, thing)
            self.refuses(CannotBe, live, live.lead, thing, thing)
        for method, arguments in (
                (live.place, (False,)), (live.place, (True,)), (live.take, (False,)), (live.lead, (0, True)), (live.lead, (True, 0)),
                (live.place, (4,)), (live.lead, (2, 0)), (live.lead, (1, 2)), (live.lead, (0, 0)), (live.place, ("0",))):
            self.refuses(CannotBe, live, method, *arguments)
        self.assertEqual(live.steps, [("set", 0), ("set", 1)])

    def test_refused_just_where_the_step_can_not_be(self):
        chance = seeded(255)
        for cave in CAVES[:9]:
            live, rooms = Live(cave), sorted({room for way in cave for room in way})
            for _ in range(60):
                word, room, other = chance.choice(("set", "take", "lead", "lead")), chance.choice(rooms), chance.choice(rooms)
                step = (word, room, other) if word == "lead" else (word, room)
                able = can_be(cave, live.steps, step)
                before = len(live)
                if able:
                    come(live, step)
                else:
                    self.refuses(CannotBe, live, lambda: come(live, step))
                self.assertEqual(len(live), before + able)

    def test_by_name(self):
        live = Live(cave=PATH)
        self.assertEqual((live.place(room=0), live.lead(room=0, other=1), live.take(room=1)), (None, None, None))
        self.assertEqual(live.steps, [("set", 0), ("lead", 0, 1), ("take", 1)])

    def test_no_ways(self):
        live = Live(STAR)
        live.place(1)
        wrong = [thing for thing in THINGS if told(thing) != "(0, 1)"]
        wrong += [(1, 0), [0, 1], (False, 1), (0, True), (0, 4), (1, 2), ((0, 1),), (0, 1, 1), ("0", "1"), "0-1", ([], 1), ({}, {})]
        for thing in wrong:
            self.refuses(InvalidWay, live, live.can_hide, thing)
        self.refuses(InvalidWay, Live(FAR), Live(FAR).can_hide, (0, 1))

    def test_no_caves(self):
        for thing in NO_CAVES:
            with self.assertRaises(InvalidCave) as caught:
                Live(thing)
            self.assertIs(type(caught.exception), InvalidCave)
            self.assertRaises(InvalidCave, Live, cave=thing)

    def test_long_scripts(self):
        live = Live(path_of(99))
        live.place(0)
        for _ in range(20):
            for room in range(99):
                live.lead(room, room + 1)
            for room in range(99, 0, -1):
                live.lead(room, room - 1)
        self.assertEqual((live.foul, live.most, len(live), live.searchers), ([], 1, 3961, [0]))
        twin = live.copy()
        for _ in range(3960):
            twin.undo()
        self.assertEqual((len(twin.foul), twin.steps, len(live)), (99, [("set", 0)], 3961))
        live = Live(ONE)
        for _ in range(3000):
            live.place(1)
        self.assertEqual((live.most, live.searchers), (3000, [1] * 3000))


if __name__ == "__main__":
    unittest.main()
