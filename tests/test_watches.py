"""[35]: watches."""

import inspect
import unittest

from cavesweep import watches as module
from cavesweep.errors import CannotBe, InvalidCave, InvalidKind, NothingToRedo, NothingToUndo
from cavesweep.lamps import can_light, lamps_used, lit_by
from cavesweep.live import Live
from cavesweep.mixed import can_mix, mixed_by, mixed_used
from cavesweep.watches import Watch
from support import CAVES, FULL, GREAT, NO_CAVES, ONE, PARTS, PATH, RING, STAR, THINGS
from support import Case, Plain, plain_border, plain_states, plain_uses, random_cave, rooms_in, seeded, told, without
from test_live import come

EXAMPLES = """
>>> from cavesweep.watches import Watch
>>> watch = Watch(((0, 1), (1, 2)), 'lamps')
>>> watch.place(0), watch.place(1), watch.foul, watch.needed, watch.take(0), watch.searchers
(None, None, [(1, 2)], [1], None, [1])
>>> watch.undo(), watch.undo(), watch.foul, watch.redo(), watch.redo(), len(watch), watch.most
(None, None, [(0, 1), (1, 2)], None, None, 3, 2)
"""

KINDS = ("lamps", "mixed")
LEFT_BY = {"lamps": lit_by, "mixed": mixed_by}
USED = {"lamps": lamps_used, "mixed": mixed_used}
CAN = {"lamps": can_light, "mixed": can_mix}
NAMES = ("kind", "steps", "searchers", "foul", "needed", "most")


def shown(watch):
    return tuple(getattr(watch, name) for name in NAMES) + (len(watch),)


def expected(cave, kind, steps):
    """What a watch shows, by the rules told anew."""
    searchers, foul = plain_states(cave, steps, kind)[-1]
    needed = sorted(plain_border(cave, [way for way in cave if way not in foul]))
    return (kind, steps, searchers, foul, needed, plain_uses(cave, steps, kind), len(steps))


class Model:
    """A watch as lists of steps: those that stand and those that can be done again."""

    def __init__(self, cave, kind):
        self.cave, self.kind, self.steps, self.undone = cave, kind, [], []

    def able(self):
        play = Plain(self.cave, self.kind)
        for step in self.steps:
            play.go(step)
        return play.all_steps()

    def copy(self):
        twin = Model(self.cave, self.kind)
        twin.steps, twin.undone = list(self.steps), list(self.undone)
        return twin


class Watches(Case):
    def test_interface(self):
        self.assertEqual(str(inspect.signature(Watch)), "(cave, kind)")
        for name, arguments in (("place", "room"), ("take", "room"), ("lead", "room other"), ("undo", ""), ("redo", ""), ("copy", "")):
            self.assertEqual(" ".join(inspect.signature(vars(Watch)[name]).parameters), ("self " + arguments).strip())
        for name in NAMES:
            self.assertIsInstance(vars(Watch)[name], property)
        self.assertIn("__len__", vars(Watch))
        self.assertEqual(Watch.__module__, module.__name__)

    def test_examples(self):
        self.has_examples(module, EXAMPLES)
        watch = Watch(PATH, "lamps")
        for room in (0, 1):
            watch.place(room)
        watch.take(0)
        self.refuses(CannotBe, watch, watch.lead, 1, 2)

    def refuses(self, error, watch, method, *arguments):
        """That a call is refused, and changes nothing, also of what can be done again."""
        before = told(shown(watch))
        self.raises(error, method, *arguments)
        self.assertEqual(told(shown(watch)), before)

    def check(self, watch, model):
        self.assertEqual(told(shown(watch)), told(expected(model.cave, model.kind, model.steps)))
        self.assertIs(type(len(watch)), int)

    def draw(self, chance, watch, model):
        """Some call, with the same done to the model."""
        word = chance.choice(("come", "come", "come", "again", "undo", "undo", "redo", "redo", "wrong"))
        if word == "undo":
            if not model.steps:
                return self.refuses(NothingToUndo, watch, watch.undo)
            self.assertIs(watch.undo(), None)
            model.undone.append(model.steps.pop())
        elif word == "redo":
            if not model.undone:
                return self.refuses(NothingToRedo, watch, watch.redo)
            self.assertIs(watch.redo(), None)
            model.steps.append(model.undone.pop())
        elif word == "wrong":
            room, other = chance.choice(rooms_in(model.cave)), chance.choice(rooms_in(model.cave))
            step = chance.choice((("take", room), ("lead", room, other), ("set", 100)))
            if step not in model.able():
                self.refuses(CannotBe, watch, lambda: come(watch, step))
        else:
            # A step like the one that could be done again ends it, too.
            step = model.undone[-1] if word == "again" and model.undone else chance.choice(model.able())
            self.assertIs(come(watch, step), None)
            model.steps.append(step)
            model.undone = []
        return None

    def test_long_rows_of_calls(self):
        chance = seeded(351)
        for kind in KINDS:
            for cave in CAVES + [random_cave(chance, 8) for _ in range(8)]:
                watch, model = Watch(cave, kind), Model(cave, kind)
                for _ in range(60):
                    self.draw(chance, watch, model)
                    self.check(watch, model)

    def test_as_the_functions_say(self):
        chance = seeded(352)
        for kind in KINDS:
            for cave in CAVES:
                watch = Watch(cave, kind)
                for _ in range(25):
                    word, room, other = chance.choice(("set", "set", "take", "lead")), *chance.choice(cave)
                    step = (word, room, other) if word == "lead" else (word, room)
                    steps = watch.steps
                    if CAN[kind](cave, steps, step):
                        come(watch, step)
                        steps.append(step)
                    else:
                        self.refuses(CannotBe, watch, lambda: come(watch, step))
                    self.assertEqual(watch.steps, steps)
                    self.assertEqual((watch.searchers, watch.foul), LEFT_BY[kind](cave, steps))
                    self.assertEqual(watch.most, USED[kind](cave, steps))

    def test_undone_to_the_first_step_and_done_again(self):
        chance = seeded(353)
        for kind in KINDS:
            for cave in CAVES + [random_cave(chance, 9) for _ in range(8)]:
                watch, model, rows = Watch(cave, kind), Model(cave, kind), []
                for _ in range(25):
                    rows.append(told(shown(watch)))
                    step = chance.choice(model.able())
                    come(watch, step)
                    model.steps.append(step)
                rows.append(told(shown(watch)))
                for row in rows[-2::-1]:
                    watch.undo()
                    self.assertEqual(told(shown(watch)), row)
                self.refuses(NothingToUndo, watch, watch.undo)
                for row in rows[1:]:
                    watch.redo()
                    self.assertEqual(told(shown(watch)), row)
                self.refuses(NothingToRedo, watch, watch.redo)

    def test_a_step_ends_what_can_be_done_again(self):
        for kind in KINDS:
            watch = Watch(PATH, kind)
            watch.place(0)
            watch.place(1)
            watch.undo()
            watch.undo()
            # One like it ends it, one that can not be does not.
            self.refuses(CannotBe, watch, watch.take, 0)
            self.refuses(CannotBe, watch, watch.place, 3)
            watch.redo()
            watch.undo()
            watch.place(0)
            self.refuses(NothingToRedo, watch, watch.redo)
            self.assertEqual(watch.steps, [("set", 0)])
            watch.undo()
            watch.redo()
            self.refuses(NothingToRedo, watch, watch.redo)
            watch.undo()
            self.refuses(NothingToUndo, watch, watch.undo)
            watch.redo()
            self.assertEqual(watch.steps, [("set", 0)])

    def test_copies_go_on_apart(self):
        chance = seeded(354)
        for kind in KINDS:
            for cave in CAVES:
                pairs = [(Watch(cave, kind), Model(cave, kind))]
                for _ in range(50):
                    watch, model = chance.choice(pairs)
                    if chance.random() < 0.15:
                        twin = watch.copy()
                        self.assertIs(type(twin), Watch)
                        pairs.append((twin, model.copy()))
                    self.draw(chance, watch, model)
                for watch, model in pairs:
                    self.check(watch, model)
                    while model.undone:
                        watch.redo()
                        model.steps.append(model.undone.pop())
                    self.refuses(NothingToRedo, watch, watch.redo)
                    self.check(watch, model)
                    for _ in model.steps:
                        watch.undo()
                    self.refuses(NothingToUndo, watch, watch.undo)

    def test_at_first(self):
        for kind in KINDS:
            for cave in CAVES + [GREAT]:
                watch = Watch(cave, kind)
                self.assertEqual(told(shown(watch)), told((kind, [], [], list(cave), [], 0, 0)))
                self.refuses(NothingToUndo, watch, watch.undo)
                self.refuses(NothingToRedo, watch, watch.redo)

    def test_needed(self):
        watch = Watch(FULL, "lamps")
        for room in (0, 1, 2, 3):
            watch.place(room)
            self.assertEqual(watch.needed, [[], [0, 1], [0, 1, 2], []][room])
        watch = Watch(STAR, "mixed")
        watch.place(1)
        watch.place(1)
        watch.lead(1, 0)
        self.assertEqual(watch.needed, [0])
        # Where somebody is more than is needed, the list does not tell.
        self.assertEqual(watch.searchers, [0, 1])

    def test_most_after_undo(self):
        watch = Watch(STAR, "mixed")
        for room in (0, 1, 2):
            watch.place(room)
        watch.take(0)
        watch.take(1)
        self.assertEqual(watch.most, 3)
        for most in (3, 3, 2, 1, 0):
            watch.undo()
            self.assertEqual(watch.most, most)
        for most in (1, 2, 3, 3, 3):
            watch.redo()
            self.assertEqual(watch.most, most)

    def test_undo_of_leads(self):
        watch = Watch(RING, "mixed")
        for step in (("set", 0), ("set", 1), ("lead", 0, 2)):
            come(watch, step)
        self.assertEqual(watch.foul, [])
        watch.undo()
        self.assertEqual((watch.foul, watch.searchers, watch.needed), ([(0, 2), (1, 2)], [0, 1], [0, 1]))
        watch.undo()
        self.assertEqual((watch.foul, watch.searchers), (list(RING), [0]))
        # Along a way that both ends make clean, and one that becomes foul at once.
        watch = Watch(STAR, "mixed")
        for step in (("set", 0), ("set", 1), ("set", 1), ("lead", 1, 0), ("lead", 0, 2), ("lead", 0, 1)):
            come(watch, step)
        self.assertEqual((watch.foul, watch.searchers), (list(STAR), [1, 1, 2]))
        watch.undo()
        self.assertEqual((watch.foul, watch.searchers), ([(0, 3)], [0, 1, 2]))
        watch.undo()
        self.assertEqual((watch.foul, watch.searchers), ([(0, 2), (0, 3)], [0, 0, 1]))

    def test_lists_are_new_each_time(self):
        for kind in KINDS:
            watch = Watch(PARTS, kind)
            for room in (7, 3, 9, 0, 0):
                watch.place(room)
            watch.undo()
            for name in ("steps", "searchers", "foul", "needed"):
                before = told(getattr(watch, name))
                self.assertIsNot(getattr(watch, name), getattr(watch, name))
                getattr(watch, name).append("spoiled")
                getattr(watch, name).clear()
                self.assertEqual(told(getattr(watch, name)), before)
            steps, twin = watch.steps, watch.copy()
            twin.steps.clear()
            watch.undo()
            self.assertEqual((len(steps), len(watch), len(twin)), (4, 3, 4))

    def test_nobody_is_led_with_lamps(self):
        for thing in THINGS + [0, 1]:
            watch = Watch(STAR, "lamps")
            watch.place(0)
            watch.place(1)
            self.refuses(CannotBe, watch, watch.lead, 0, thing)
            self.refuses(CannotBe, watch, watch.lead, thing, 1)
            self.refuses(CannotBe, watch, watch.lead, thing, thing)

    def test_what_cannot_be(self):
        for kind in KINDS:
            watch = Watch(STAR, kind)
            watch.place(0)
            watch.undo()
            for thing in THINGS:
                if told(thing) not in "0123":
                    self.refuses(CannotBe, watch, watch.place, thing)
                self.refuses(CannotBe, watch, watch.take, thing)
                self.refuses(CannotBe, watch, watch.lead, thing, 0)
                self.refuses(CannotBe, watch, watch.lead, 0, thing)
            watch.redo()
            watch.place(1)
            for thing in without(THINGS, 0, 1):
                self.refuses(CannotBe, watch, watch.take, thing)
                self.refuses(CannotBe, watch, watch.lead, thing, 0)
                self.refuses(CannotBe, watch, watch.lead, 1, thing)
            for method, arguments in (
                    (watch.place, (False,)), (watch.place, (True,)), (watch.take, (False,)), (watch.lead, (0, True)), (watch.lead, (True, 0)),
                    (watch.place, (4,)), (watch.lead, (2, 0)), (watch.lead, (1, 2)), (watch.lead, (0, 0)), (watch.place, ("0",))):
                self.refuses(CannotBe, watch, method, *arguments)
            self.assertEqual(watch.steps, [("set", 0), ("set", 1)])

    def test_by_name(self):
        watch = Watch(kind="mixed", cave=PATH)
        self.assertEqual((watch.place(room=0), watch.lead(other=1, room=0), watch.take(room=1)), (None, None, None))
        self.assertEqual(watch.steps, [("set", 0), ("lead", 0, 1), ("take", 1)])
        self.assertEqual(Watch(cave=PATH, kind="lamps").kind, "lamps")

    def test_no_kinds(self):
        wrong = THINGS + [
            "lamp", "Lamps", "lamps ", " mixed", "mixedlamps", "plain", "led", ["lamps"], ("mixed",), {"lamps": "mixed"}, ["mixed", "lamps"], "MIXED"]
        for thing in wrong:
            self.raises(InvalidKind, Watch, STAR, thing)
            self.raises(InvalidKind, Watch, GREAT, thing)

    def test_no_caves(self):
        for thing in NO_CAVES:
            self.raises(InvalidCave, Watch, thing, "lamps")
            self.raises(InvalidCave, Watch, thing, "mixed")
            self.raises(InvalidCave, Watch, thing, thing)
        self.raises(InvalidCave, Watch, Watch(STAR, "lamps"), "lamps")
        self.raises(InvalidCave, Watch, Live(STAR), "mixed")

    def test_long_scripts(self):
        watch = Watch(PATH, "mixed")
        watch.place(0)
        for _ in range(1000):
            for step in ((0, 1), (1, 2), (2, 1), (1, 0)):
                watch.lead(*step)
        self.assertEqual((watch.foul, watch.most, len(watch), watch.searchers), ([], 1, 4001, [0]))
        twin = watch.copy()
        for _ in range(4000):
            twin.undo()
        self.assertEqual((len(twin.foul), twin.steps, len(watch)), (2, [("set", 0)], 4001))
        again = twin.copy()
        for _ in range(4000):
            again.redo()
        self.assertEqual((again.steps == watch.steps, again.foul, len(twin)), (True, [], 1))
        self.refuses(NothingToRedo, again, again.redo)
        watch = Watch(ONE, "lamps")
        for _ in range(3000):
            watch.place(1)
        self.assertEqual((watch.most, watch.searchers), (3000, [1] * 3000))


if __name__ == "__main__":
    unittest.main()
