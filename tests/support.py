"""What several tests use: objects of every kind, checks of calls, and the rules of caves, told anew and plainly."""

import copy
import doctest
import inspect
import itertools
import random
import unittest

STAR = ((0, 1), (0, 2), (0, 3))
PATH = ((0, 1), (1, 2))
RING = ((0, 1), (0, 2), (1, 2))
ONE = ((0, 1),)
FAR = ((0, 99),)
PARTS = ((0, 7), (3, 9), (7, 8))
FULL = tuple(itertools.combinations(range(4), 2))
GREAT = tuple(itertools.combinations(range(100), 2))


def deep(kind, levels):
    """Nest lists, tuples or dicts so many levels deep."""
    thing = 0
    for _ in range(levels):
        thing = {"a": thing} if kind is dict else kind([thing])
    return thing


# Objects of every kind that the document's "any object" names.
THINGS = [
    0, 1, 2, 9, 99, 100, -1, -99, 10 ** 39, 10 ** 40 - 1, -(10 ** 39), 1 - 10 ** 40,
    True, False, None,
    "", "a", "set", "lead", "none", "0", "0-1", "0-1 1-2", "set 0", "\t", "\n", "set 0\n", " ", "~!", "1" * 5000, "-" * 5000,
    [], [0], [[]], [()], [None], ["set", 0], [("set",)], [(0, 1)], [[0, 1]], [[0], [1]], [True], ["0-1"], [0] * 20000,
    (), (0,), (0, 1), ((),), ([],), (None,), ("set", 0), ((0, 1), None), ([0, 1],), (True, False), ("a", "b"), ((0,),),
    (0, (0, 1)), (0,) * 20000, ((), ()) * 1000, ((0, 1), (0, 1)), ((1, 0),), ((0, 0),), ((0, 1, 2),), (((0, 1),),),
    {}, {"a": 1}, {0: 1}, {(0, "a"): [1]}, {"index": {"b": ()}}, {(0, 1): True}, {n: n for n in range(5000)},
    deep(list, 20), deep(tuple, 20), deep(dict, 20), [deep(tuple, 19), deep(list, 19)], (deep(dict, 19),) * 100,
]

# Things that are no caves, though some equal one, or nearly are one.
NO_CAVES = [thing for thing in THINGS] + [
    [(0, 1)], ([0, 1],), [[0, 1]], ((False, 1),), ((0, True),), ((0, 1), (False, 2)), ((0, 1), (1, 2, 3)), ((0, 1), (1,)),
    ((0, 1), (1, 2), (1, 2)), ((1, 2), (0, 1)), ((0, 2), (0, 1)), ((0, 100),), ((-1, 0),), ((0, 10 ** 39),), ((5, 5),),
    ((0, 1), (2, 1)), ((0, None),), (("0", "1"),), ((0, "1"),), ((0, (1,)),), ((0, 1), [1, 2]), ((0, 1), ()), ("0-1",),
    {(0, 1): 1}, ((0, 1), (1, 2), None), (None, (0, 1)), GREAT[::-1], list(GREAT), GREAT + ((98, 99),), GREAT[:-1] + ((99, 98),),
]


def told(thing):
    """A text that tells an object with its types: False is not told like 0, nor a list like a tuple."""
    return repr(thing)


def without(things, *right):
    """The objects that are none of those, the types of all their parts considered."""
    words = {told(one) for one in right}
    return [thing for thing in things if told(thing) not in words]


# Things that are no scripts of the star.
NO_SCRIPTS = without(THINGS, []) + [
    [("set", 4)], [("set", False)], [("set", True)], [("set", "0")], [("set", None)], [("set", (0,))], [("set", -1)],
    [("set", 10 ** 39)], [("set",)], [("set", 0, 0)], [["set", 0]], (("set", 0),), [("Set", 0)], [("put", 0)], ["set 0"],
    [("take", 0)], [("set", 0), ("take", 1)], [("set", 0), ("take", 0), ("take", 0)], [("set", 0), ("take", False)],
    [("set", 0), ("take", 0, 1)], [("lead", 0, 1)], [("set", 0), ("lead", 1, 0)], [("set", 1), ("lead", 1, 2)],
    [("set", 0), ("lead", 0, 0)], [("set", 0), ("lead", 0, True)], [("set", 0), ("lead", False, 1)],
    [("set", 0), ("lead", 0)], [("set", 0), ("lead", 0, 1, 1)], [("set", 0), ("lead", (0, 1))], [("set", 0), ("lead", 0, 4)],
    [("set", 0), ["lead", 0, 1]], [("set", 0), None], [None, ("set", 0)], [("set", 0), ("lead", 0, 1), ("lead", 0, 2)],
    [("set", 0), 0], {0: ("set", 0)}, [(0, "set")], [(None, 0)], [([], 0)], [({}, 0, 1)], [("lead", [], 0)], [("set", {})],
    [("set", 0), ("lead", 0, None)], [("set", 0), ("lead", 0, [1])], [("take", {})], [("set", 0)] * 3000 + [("take", 1)],
]


# Things that are no integers from 0 on.
NO_NUMBERS = [thing for thing in THINGS if type(thing) is not int or thing < 0] + [[1], (1,), {1: 1}, "1", "0", "-1"]


# Things that are no integers from 1 on.
NO_POSITIVES = NO_NUMBERS + [0]

# Things that are no trees: a ring beside a way has one room more than ways, too.
NO_TREES = NO_CAVES + [
    RING, PARTS, FULL, GREAT, RING + ((3, 4),), ((0, 1), (2, 3)), ((0, 1), (0, 2), (1, 3), (2, 3)), ((0, 1), (0, 2), (1, 2), (2, 3)),
    ((0, 1), (1, 2), (3, 4)), ((0, 1), (0, 2), (1, 2), (50, 51), (50, 52), (52, 53), (98, 99)),
]


def brief(thing):
    words = told(thing)
    return words if len(words) < 200 else words[:200] + ".."


def by_names(function, arguments):
    """Arguments by the names of their parameters, the last one first."""
    names = list(inspect.signature(function).parameters)
    return dict(list(zip(names, arguments))[::-1])


class Case(unittest.TestCase):
    """A test with checks that every call has to stand."""

    def call(self, function, *arguments):
        """The answer to a call; also that it changes nothing, answers alike by name, and anew each time."""
        before = copy.deepcopy(arguments)
        answer = function(*arguments)
        kept = copy.deepcopy(answer)
        self.spoil(answer)
        self.assertEqual(told(arguments), told(before), function.__name__)
        second = function(**by_names(function, arguments))
        self.assertEqual(told(second), told(kept), function.__name__)
        self.assertEqual(told(arguments), told(before), function.__name__)
        return second

    def spoil(self, answer):
        """Change the lists of an answer: no later answer may show it."""
        if isinstance(answer, tuple):
            for part in answer:
                self.spoil(part)
        if isinstance(answer, list):
            for part in answer:
                self.spoil(part)
            answer.append("spoiled")
            answer.reverse()

    def raises(self, error, function, *arguments):
        """That a call raises just this error, by position and by name, and changes nothing."""
        before = told(arguments)
        with self.assertRaises(error, msg=brief(arguments)) as caught:
            function(*arguments)
        self.assertIs(type(caught.exception), error, brief(arguments))
        with self.assertRaises(error, msg=brief(arguments)):
            function(**by_names(function, arguments))
        self.assertEqual(told(arguments), before)
        return caught.exception

    def is_bool(self, worth, answer, message=None):
        self.assertIs(type(answer), bool, brief(message))
        self.assertIs(answer, worth, brief(message))

    def has_examples(self, module, words):
        """That a session, told as in the document, answers as it says."""
        finder = doctest.DocTestParser()
        test = finder.get_doctest(words, {}, module.__name__, None, 0)
        outcome = doctest.DocTestRunner(verbose=False).run(test)
        self.assertGreater(outcome.attempted, 0)
        self.assertEqual(outcome.failed, 0)

    def interface(self, module, **functions):
        """That a file itself defines functions with these arguments."""
        for name, arguments in functions.items():
            function = getattr(module, name)
            self.assertEqual(function.__module__, module.__name__)
            self.assertEqual(" ".join(inspect.signature(function).parameters), arguments)


def way_of(step):
    return (min(step[1:]), max(step[1:]))


class Plain:
    """The rules of scripts, each step told by the words of the document, without any haste.

    The manner is "plain" for those of [4], "lamps" for those of [28], "mixed" for those of [32].
    """

    def __init__(self, cave, manner="plain"):
        self.cave = cave
        self.manner = manner
        self.rooms = {room for way in cave for room in way}
        self.searchers = []
        self.foul = set(cave)

    def can(self, step):
        kinds = {"set": 2, "take": 2, "lead": 3}
        if type(step) is not tuple or not step or type(step[0]) is not str or kinds.get(step[0]) != len(step):
            return False
        if any(type(room) is not int or room not in self.rooms for room in step[1:]):
            return False
        if step[0] == "set":
            return True
        if step[0] == "lead" and self.manner == "lamps":
            return False
        return step[1] in self.searchers and (step[0] == "take" or way_of(step) in self.cave)

    def go(self, step):
        if step[0] == "set":
            self.searchers.append(step[1])
        else:
            self.searchers.remove(step[1])
        if step[0] == "lead":
            self.searchers.append(step[2])
            self.foul.discard(way_of(step))
        if self.manner != "plain":
            self.foul -= {way for way in self.cave if set(way) <= set(self.searchers)}
        while self.foul_one():
            pass

    def foul_one(self):
        for room in self.rooms - set(self.searchers):
            here = {way for way in self.cave if room in way}
            if here & self.foul and here - self.foul:
                self.foul |= here
                return True
        return False

    def all_steps(self):
        """All steps that can be now."""
        steps = [("set", room) for room in self.rooms] + [("take", room) for room in self.rooms]
        for room, other in self.cave:
            steps += [("lead", room, other), ("lead", other, room)]
        return [step for step in sorted(steps) if self.can(step)]


def plain_states(cave, steps, manner="plain"):
    """The state ahead of each step and behind all, as (searchers, foul), each a sorted list."""
    play = Plain(cave, manner)
    states = [([], sorted(cave))]
    for step in steps:
        assert play.can(step), step
        play.go(step)
        states.append((sorted(play.searchers), sorted(play.foul)))
    return states


def at_state(cave, searchers, foul, manner="plain"):
    """A play in a state to which it did not come."""
    play = Plain(cave, manner)
    play.searchers, play.foul = list(searchers), set(foul)
    return play


def is_plain_script(cave, steps, manner="plain"):
    """Whether a list of steps is a script."""
    play = Plain(cave, manner)
    for step in steps:
        if not play.can(step):
            return False
        play.go(step)
    return True


def plain_first_foul(cave, steps, manner="plain"):
    """The index of the first step that fouls a way, or None."""
    states = plain_states(cave, steps, manner)
    for at in range(len(steps)):
        if set(states[at + 1][1]) - set(states[at][1]):
            return at
    return None


def plain_uses(cave, steps, manner="plain"):
    return max(len(searchers) for searchers, _ in plain_states(cave, steps, manner))


def plain_sure_with(cave, k, manner):
    """Whether some script with k searchers at most is sure, by going through all states."""
    found = {((), tuple(cave))}
    todo = list(found)
    for searchers, foul in todo:
        for step in at_state(cave, searchers, foul, manner).all_steps():
            play = at_state(cave, searchers, foul, manner)
            play.go(step)
            if len(play.searchers) > k:
                continue
            if not play.foul:
                return True
            state = (tuple(sorted(play.searchers)), tuple(sorted(play.foul)))
            if state not in found:
                found.add(state)
                todo.append(state)
    return False


def plain_border(cave, lot):
    rooms = {room for way in cave for room in way}
    return [room for room in rooms if len({way in lot for way in cave if room in way}) == 2]


def plain_cost(cave, lot, way):
    """What it costs to go on, as [6] and [36] tell it."""
    border = plain_border(cave, lot)
    numbers = []
    for room in way:
        others = [other for other in cave if room in other and other != way]
        if room in border:
            numbers.append(len(border) + (1 if any(other not in lot for other in others) else 0))
        else:
            numbers.append(len(border) + (1 if not others else 2))
    return min(numbers)


def plain_sweep_cost(cave, ways):
    return max(plain_cost(cave, tuple(ways[:at]), ways[at]) for at in range(len(ways)))


def plain_enough(cave, k):
    """Whether k searchers are enough, by the lots to which one comes; none are needed where no way is."""
    return not cave or tuple(cave) in plain_lots(cave, k)


def plain_least(cave):
    """The least cost of a sweep."""
    return next(k for k in range(20) if plain_enough(cave, k))


def with_way(lot, way):
    return tuple(sorted(lot + (way,)))


def plain_lots(cave, k):
    """The lots to which one comes by ways that cost k or less."""
    found = {()}
    todo = [()]
    for lot in todo:
        for way in cave:
            if way not in lot and with_way(lot, way) not in found and plain_cost(cave, lot, way) <= k:
                found.add(with_way(lot, way))
                todo.append(with_way(lot, way))
    return sorted(found)


def rooms_in(cave):
    return sorted({room for way in cave for room in way})


def plain_held(cave, lot):
    """The rooms of a lot at which a way ends that leads to none of them."""
    return [room for room in sorted(lot) if any(room in way and not set(way) <= set(lot) for way in cave)]


def plain_breadth(cave, order):
    return max(len(plain_held(cave, order[:number])) for number in range(len(order) + 1))


def plain_room_lots(cave, k):
    """The lots of rooms to which one comes, room by room, with k held at most."""
    found = {()}
    todo = [()]
    for lot in todo:
        for room in rooms_in(cave):
            larger = tuple(sorted(set(lot) | {room}))
            if larger not in found and len(plain_held(cave, larger)) <= k:
                found.add(larger)
                todo.append(larger)
    return sorted(found)


def random_cave(chance, many, rooms=6):
    """A cave of so many ways, or fewer, among so many rooms."""
    names = chance.sample(range(100), rooms)
    ways = {tuple(sorted(chance.sample(names, 2))) for _ in range(many)}
    return tuple(sorted(ways))


def random_steps(chance, cave, many, leads=4, manner="plain"):
    """A script of so many steps; the more leads, the oftener somebody is led."""
    play = Plain(cave, manner)
    steps = []
    for _ in range(many):
        able = play.all_steps()
        able += [step for step in able if step[0] == "lead"] * leads
        step = chance.choice(able)
        play.go(step)
        steps.append(step)
    return steps


def random_tree(chance, many, back=100):
    """A tree of so many ways; the less it looks back, the longer its paths."""
    names = chance.sample(range(100), many + 1)
    ways = [(names[chance.randrange(max(0, at - back), at)], names[at]) for at in range(1, many + 1)]
    return tuple(sorted(tuple(sorted(way)) for way in ways))


def plain_branch(tree, room, other):
    """The branch of a tree at a room by a neighbour: the way to it and all ways behind it."""
    ways = {way_of(("lead", room, other))}
    rooms = {other}
    while True:
        more = {way for way in tree if set(way) & rooms}
        if more <= ways:
            return tuple(sorted(ways))
        ways |= more
        rooms = {end for way in ways for end in way} - {room}


def plain_neighbours(tree, room):
    return [other for other in range(100) if other != room and way_of(("lead", room, other)) in tree]


def plain_label(labels):
    """The label that is had from others, word by word as [9] tells."""
    if not labels:
        return (1,)
    k = max(label[0] for label in labels)
    first = [label for label in labels if label[0] == k]
    if len(first) >= 3 or (len(first) == 2 and k == 1):
        return (k + 1,)
    if len(first) == 2:
        return (k + 1,) if any(len(label) > 1 for label in first) else (k, 1)
    if len(first[0]) == 1:
        return (k,)
    rest = plain_label(without_first(labels, k))
    return (k + 1,) if rest[0] >= k else (k,) + rest


def plain_top(labels):
    k = max(label[0] for label in labels)
    first = [label for label in labels if label[0] == k]
    if len(first) >= 3 or (len(first) == 2 and any(len(label) > 1 for label in first)):
        return k + 1
    if len(first) == 1 and len(first[0]) > 1 and plain_top(without_first(labels, k)) >= k:
        return k + 1
    return k


def without_first(labels, k):
    return [label[1:] if label[0] == k else label for label in labels]


def path_of(many):
    return tuple((room, room + 1) for room in range(many))


def star_of(many):
    return tuple((0, room) for room in range(1, many + 1))


def nested_threes(k):
    """A least tree of the number k: three least ones of k - 1, each with an end at one room."""
    ways = []
    rooms = iter(range(100))

    def grow(room, other, left):
        if left == 1:
            ways.append((min(room, other), max(room, other)))
            return
        middle = next(rooms)
        for end in (room, other, next(rooms)):
            grow(end, middle, left - 1)

    grow(next(rooms), next(rooms), k)
    return tuple(sorted(ways))


def without_ends(tree):
    """The trees that are left if a way is left out that leads to an end of the tree."""
    ends = [room for room in range(100) if sum(room in way for way in tree) == 1]
    return [tuple(way for way in tree if end not in way) for end in ends if len(tree) > 1]


def random_order(chance, cave):
    return chance.sample(rooms_in(cave), len(rooms_in(cave)))


def seeded(number):
    return random.Random(number)


# Caves of many shapes with at most nine ways.
CAVES = [
    ONE, FAR, PATH, STAR, RING, PARTS, FULL,
    tuple((n, n + 1) for n in range(9)),
    tuple((0, n) for n in range(1, 10)),
    tuple((2 * n, 2 * n + 1) for n in range(9)),
    ((0, 1), (0, 8)) + tuple((n, n + 1) for n in range(1, 8)),
    tuple(itertools.combinations(range(5), 2))[:9],
    ((0, 1), (0, 2), (1, 2), (10, 11), (10, 12), (11, 12), (50, 99)),
    ((0, 1), (0, 2), (0, 3), (1, 4), (1, 5), (2, 6), (2, 7), (3, 8), (3, 9)),
    ((0, 3), (0, 4), (0, 5), (1, 3), (1, 4), (1, 5), (2, 3), (2, 4), (2, 5)),
    ((0, 1), (0, 3), (1, 2), (1, 4), (2, 5), (3, 4), (4, 5)),
    ((98, 99),), ((0, 98), (0, 99), (98, 99)),
]
