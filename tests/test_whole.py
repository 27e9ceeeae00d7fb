"""[2], [36]: all functions, classes and methods together: parameters by name, and the first error in the document's order."""

import importlib
import inspect
import itertools
import unittest

from cavesweep import errors
from cavesweep.live import Live
from cavesweep.shell import Shell
from cavesweep.watches import Watch
from support import NO_CAVES, NO_NUMBERS, NO_POSITIVES, NO_SCRIPTS, NO_TREES, PATH, STAR, THINGS
from support import Case, brief, seeded, told, without
from test_bags import is_row as is_bag_row
from test_grown import NO_BOOKS
from test_labels import NO_LABELS
from test_lamps import NO_LIT_SCRIPTS
from test_rooms import NO_ORDERS
from test_shortest import NO_BOOLS
from test_smaller import NO_INDEXES
from test_sweeps import NO_LOTS, NO_SWEEPS, NO_WAYS

BOOK = (("leaf", ()), ("three", ("three", "three", "three")), ("two", ("two", "leaf", "two")))
NO_ROWS = THINGS + [[(0, 1), (0, 2)], [(0, 1), (0, 3), (0, 2), ()], STAR, [STAR], [(0, 1, 2, True)], [[0, 1, 2, 3]]]
NO_STAR_ROOMS = without(THINGS, 0, 1, 2, 3) + [4, False, True, "0", (0,), [0], {0: 0}]
NO_STRINGS = [thing for thing in THINGS if not isinstance(thing, str)] + ["0-1 0-1", "1-0", "set", "take 0"]
NAMES = ["leaf ", "", "four", None, 0, ["leaf"], ("leaf",), {"leaf": 1}]

# For each kind of a parameter what is right, what is wrong, and the error. Nothing is wrong where any object is let.
KINDS = {
    "any": (None, [], None),
    "cave": (STAR, NO_CAVES, "InvalidCave"),
    "tree": (STAR, NO_TREES, "InvalidTree"),
    "steps": ([("set", 0), ("set", 0), ("lead", 0, 1)], NO_SCRIPTS, "InvalidScript"),
    "lamps": ([("set", 0), ("set", 1), ("take", 0)], NO_LIT_SCRIPTS, "InvalidScript"),
    "mixed": ([("set", 0), ("set", 1), ("lead", 0, 2)], NO_SCRIPTS, "InvalidScript"),
    "lot": (((0, 1),), NO_LOTS, "InvalidLot"),
    "foul": ((0, 2), NO_WAYS, "InvalidWay"),
    "way": ((0, 2), without(NO_WAYS, (0, 1)), "InvalidWay"),
    "end": (0, NO_STAR_ROOMS, "InvalidWay"),
    "far": (3, NO_STAR_ROOMS + [0], "InvalidWay"),
    "sweep": (list(STAR), NO_SWEEPS, "InvalidSweep"),
    "k": (2, NO_NUMBERS, "InvalidNumber"),
    "positive": (2, NO_POSITIVES, "InvalidNumber"),
    "depth": (2, NO_NUMBERS + [201, 10 ** 39], "InvalidNumber"),
    "index": (2, NO_INDEXES, "InvalidNumber"),
    "first": (2, NO_NUMBERS + [5, 10 ** 39], "InvalidNumber"),
    "labels": ([(2, 1), (1,)], [thing for thing in THINGS if thing != []] + [[label] for label in NO_LABELS], "InvalidLabel"),
    "bool": (True, NO_BOOLS, "InvalidBool"),
    "book": (BOOK, NO_BOOKS, "InvalidBook"),
    "name": ("two", NAMES, "UnknownName"),
    "order": ([2, 0, 3, 1], NO_ORDERS, "InvalidOrder"),
    "row": ([(0, 1), (0, 2), (0, 3)], NO_ROWS, "InvalidRow"),
    "gate": (1, NO_STAR_ROOMS, "InvalidRoom"),
    "text": ("0-1 1-2", NO_STRINGS, "ParseError"),
    "script": ("set 0\nlead 0 1", NO_STRINGS, "ParseError"),
}

# The functions of the package, file by file, with the kinds of their parameters.
FUNCTIONS = {
    "caves": {"is_cave": "any", "is_tree": "any", "rooms_of": "cave", "parts_of": "cave"},
    "texts": {"format_cave": "cave", "format_script": "cave steps", "parse_cave": "text", "parse_script": "cave script"},
    "scripts": {"can_be": "cave steps any", "left_by": "cave steps", "uses": "cave steps", "is_sure": "cave steps", "jumps": "cave steps"},
    "hidings": {"hiding": "cave steps", "is_hiding": "cave steps any"},
    "sweeps": {"cost_by": "cave lot foul", "cost_of": "cave sweep", "script_of": "cave sweep"},
    "least": {"lots": "cave k", "least": "cave", "sweep": "cave"},
    "papers": {"is_paper": "cave k any", "paper": "cave k"},
    "labels": {"is_label": "any", "joined": "labels", "top": "labels", "branch_label": "tree end far", "number": "tree"},
    "nests": {"is_nest": "tree positive any", "nest": "tree positive"},
    "grown": {
        "is_book": "any", "grown_label": "book name depth", "grown_number": "book name depth", "grown_ways": "book name depth",
        "grown_cave": "book name depth", "least_depth": "book name positive"},
    "shut": {"least_shut": "cave k"},
    "steps": {"needless": "cave steps", "alike": "cave steps steps", "first_foul": "cave steps"},
    "shortest": {"least_script": "cave k bool"},
    "bars": {"is_bar": "cave k any", "bar": "cave k"},
    "lamps": {"can_light": "cave lamps any", "lit_by": "cave lamps", "lamps_used": "cave lamps", "is_lit": "cave lamps", "first_dark": "cave lamps"},
    "rooms": {
        "held_rooms": "cave order first", "breadth": "cave order", "lamps_of": "cave order", "least_breadth": "cave", "best_order": "cave"},
    "bags": {"is_row": "cave any", "size_of": "cave row", "order_by": "cave row", "plain_row": "cave row", "row_of": "cave order"},
    "roomlots": {"room_lots": "cave k", "is_room_paper": "cave k any", "room_paper": "cave k"},
    "mixed": {
        "can_mix": "cave mixed any", "mixed_by": "cave mixed", "mixed_used": "cave mixed", "is_mixed": "cave mixed",
        "mixed_cost_by": "cave lot foul", "least_mixed": "cave", "mixed_script": "cave k"},
    "gates": {"comes_in": "cave gate any", "least_from": "cave gate", "script_from": "cave gate k", "best_gates": "cave"},
    "smaller": {"without_way": "cave way", "drawn": "cave way", "trebled": "cave", "numbers": "cave", "is_tight": "cave index"},
}

# What tells of any object whether it is something.
TELLS = "is_cave is_tree is_hiding is_paper is_label is_nest is_book is_bar is_row is_room_paper can_be can_light can_mix comes_in".split()


def functions():
    """Each function of the package with the kinds of its parameters."""
    for file, kinds in FUNCTIONS.items():
        module = importlib.import_module(f"cavesweep.{file}")
        for name, words in kinds.items():
            yield getattr(module, name), words.split()


def rights(kinds):
    return [KINDS[kind][0] for kind in kinds]


def bend(chance, thing):
    """A thing with a part exchanged, left out, turned round, put in, or made greater or less."""
    if isinstance(thing, bool) or thing is None:
        return chance.choice((not thing, 0, 1, None))
    if isinstance(thing, int):
        return chance.choice((thing + 1, thing - 1, -thing, thing == 1, str(thing), [thing]))
    if isinstance(thing, str):
        return chance.choice((thing + " ", thing[1:], thing.upper(), thing[::-1], [thing]))
    if isinstance(thing, (list, tuple)) and thing:
        parts = list(thing)
        at = chance.randrange(len(parts))
        kind = chance.randrange(7)
        if kind == 0:
            del parts[at]
        elif kind == 1:
            parts.insert(at, parts[chance.randrange(len(parts))])
        elif kind == 2:
            parts.reverse()
        elif kind == 3:
            return tuple(parts) if isinstance(thing, list) else parts
        else:
            parts[at] = bend(chance, parts[at])
        return type(thing)(parts)
    return [thing]


class Whole(Case):
    def test_the_functions_are_there(self):
        for function, kinds in functions():
            self.assertEqual(len(inspect.signature(function).parameters), len(kinds), function.__name__)

    def test_every_order_of_names(self):
        for function, kinds in functions():
            names = list(inspect.signature(function).parameters)
            arguments = rights(kinds)
            answer = told(function(*arguments))
            for many in range(len(names) + 1):
                for order in itertools.permutations(range(many, len(names))):
                    named = {names[at]: arguments[at] for at in order}
                    self.assertEqual(told(function(*arguments[:many], **named)), answer, (function.__name__, order))
            self.assertEqual(told(arguments), told(rights(kinds)))

    def test_methods_in_every_order_of_names(self):
        for make in (lambda: Watch(kind="mixed", cave=PATH), lambda: Watch(PATH, kind="mixed"), lambda: Live(cave=PATH)):
            for ends in (dict(room=0, other=1), dict(other=1, room=0)):
                watch = make()
                self.assertEqual((watch.place(room=0), watch.lead(**ends), watch.take(room=1), watch.undo()), (None,) * 4)
                self.assertEqual((watch.steps, len(watch.copy())), ([("set", 0), ("lead", 0, 1)], 2))
                self.assertIs(watch.lead(1, other=0), None)
        self.assertEqual(Watch(PATH, kind="lamps").kind, "lamps")
        self.assertIs(Live(PATH).can_hide(way=(0, 1)), True)
        self.assertEqual(Shell().run(line="caves"), "none")
        self.assertEqual(errors.ParseError(index=3).index, 3)

    def test_each_wrong_argument_by_itself(self):
        for function, kinds in functions():
            for at, kind in enumerate(kinds):
                _, wrong, error = KINDS[kind]
                for thing in wrong:
                    if function.__name__ != "joined" or thing != []:
                        arguments = rights(kinds)
                        arguments[at] = thing
                        self.raises(getattr(errors, error), function, *arguments)

    def test_the_first_of_several_errors(self):
        chance = seeded(21)
        for function, kinds in functions():
            places = [at for at, kind in enumerate(kinds) if KINDS[kind][1]]
            for _ in range(60 if len(kinds) > 1 else 0):
                wrong = chance.sample(places, chance.randint(1, len(places)))
                # An object that any may be is no shelter for what stands ahead of it.
                arguments = [chance.choice(THINGS) if kind == "any" else KINDS[kind][0] for kind in kinds]
                for at in wrong:
                    arguments[at] = chance.choice(KINDS[kinds[at]][1])
                self.raises(getattr(errors, KINDS[kinds[min(wrong)]][2]), function, *arguments)

    def test_one_object_for_all(self):
        for function, kinds in functions():
            for thing in THINGS:
                if KINDS[kinds[0]][1] and told(thing) not in ("[]",):
                    error = KINDS[kinds[0]][2]
                    if kinds[0] != "text" or not isinstance(thing, str):
                        self.raises(getattr(errors, error), function, *[thing] * len(kinds))

    def test_where_nothing_is_promised_errors_are(self):
        # A cave of all ways between so many rooms is beyond every bound.
        great = tuple(itertools.combinations(range(20), 2))
        for function, kinds in functions():
            if kinds[0] == "cave" and kinds[-1] in ("k", "bool", "index", "gate"):
                for thing in KINDS[kinds[-1]][1]:
                    if kinds[-1] != "gate" or told(thing) not in ("4", "9"):
                        arguments = [great] + rights(kinds)[1:-1] + [thing]
                        self.raises(getattr(errors, KINDS[kinds[-1]][2]), function, *arguments)

    def test_what_calls_returned_bent(self):
        chance = seeded(22)
        returned = [function(*rights(kinds)) for function, kinds in functions()]
        found = {True: 0, False: 0}
        for function, kinds in functions():
            for _ in range(70):
                arguments = rights(kinds)
                at = chance.randrange(len(kinds))
                thing = chance.choice(returned) if chance.random() < 0.5 else KINDS[kinds[at]][0]
                for _ in range(chance.randint(1, 3)):
                    thing = bend(chance, thing)
                arguments[at] = thing
                found[self.stands(function, kinds, arguments)] += 1
        self.assertTrue(min(found.values()) > 500, found)

    def stands(self, function, kinds, arguments):
        """That a call answers, or raises an error that one of its parameters may raise; whether it answered."""
        before = told(arguments)
        allowed = {KINDS[kind][2] for kind in kinds} - {None}
        try:
            answer = function(*arguments)
        except errors.CaveError as error:
            self.assertIn(type(error).__name__, allowed, (function.__name__, brief(arguments)))
            return False
        finally:
            self.assertEqual(told(arguments), before)
        if function.__name__ in TELLS:
            self.assertIs(type(answer), bool)
        return True

    def test_objects_of_the_program_are_no_arguments(self):
        for thing in (Live(STAR), Watch(STAR, "lamps"), Shell(), errors.CannotBe("no")):
            for function, kinds in functions():
                if kinds[0] not in ("any",):
                    with self.assertRaises(errors.CaveError):
                        function(*[thing] * len(kinds))
                else:
                    self.assertIs(function(thing), False)
        self.assertIs(is_bag_row(STAR, Watch(STAR, "lamps")), False)


if __name__ == "__main__":
    unittest.main()
