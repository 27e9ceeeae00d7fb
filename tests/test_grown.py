"""[11], [21]: books, and the trees that grow by them."""

import unittest

from cavesweep import grown as module
from cavesweep.caves import is_tree
from cavesweep.errors import InvalidBook, InvalidNumber, UnknownName
from cavesweep.grown import grown_cave, grown_label, grown_number, grown_ways, is_book, least_depth
from cavesweep.labels import branch_label, is_label, number
from support import NO_NUMBERS, NO_POSITIVES, THINGS
from support import Case, path_of, plain_label, seeded, told

EXAMPLES = """
>>> from cavesweep.grown import grown_cave, grown_label, grown_number, grown_ways, least_depth
>>> book = (('leaf', ()), ('three', ('three', 'three', 'three')), ('two', ('two', 'two')))
>>> [grown_number(book, 'two', depth) for depth in range(5)], grown_label(book, 'two', 4)
([1, 2, 2, 3, 3], (3, 1))
>>> grown_ways(book, 'three', 3), grown_cave(book, 'two', 1), grown_number(book, 'three', 200)
(40, ((0, 1), (1, 2), (1, 3)), 201)
>>> least_depth(book, 'three', 5), least_depth(book, 'leaf', 2) is None
(4, True)
"""

BOOK = (("leaf", ()), ("three", ("three", "three", "three")), ("two", ("two", "two")))
CHAIN = (("a", ("a",)),)

BOOKS = [
    BOOK, CHAIN, (("a", ()),), (("abcdefgh", ("abcdefgh",) * 6),), (("a", ("a", "a")),), (("a", ("b",)), ("b", ())),
    (("a", ("b", "a")), ("b", ("c", "b")), ("c", ("c", "c"))), (("a", ("b", "a", "b")), ("b", ("a",))),
    (("a", ("b", "b")), ("b", ("c", "c")), ("c", ("d", "d")), ("d", ("e", "e")), ("e", ("f", "f")), ("f", ())),
    (("a", ("a", "b")), ("b", ("b", "c")), ("c", ("c", "d")), ("d", ("d", "e")), ("e", ("e", "f")), ("f", ("f",))),
    # Its labels grow long: up to a hundred numbers.
    (("a", ("b", "e", "e")), ("b", ("a", "f")), ("c", ("c", "d")), ("d", ("f",)), ("e", ("c", "a", "d", "c")), ("f", ("b",))),
]

NO_BOOKS = THINGS + [
    [("a", ())], (["a", ()],), (("a", []),), (("a", ["a"]),), {"a": ()}, (("a",),), (("a", (), ()),), (("a", ("b",)),), (("a", "a"),),
    (("a", None),), (("a", ("a", None)),), (("a", ("a", ["a"])),), (("a", (("a",),)),), (("a", ()), ("a", ())),
    (("a", ()), ("a", ("a",))), (("b", ()), ("a", ())), (("a", ()), ("c", ()), ("b", ())), (("A", ()),), (("", ()),), (("", ("",)),),
    (("abcdefghi", ()),), (("a1", ()),), (("a b", ()),), (("a_", ()),), (("a\n", ()),), (("a", ("a ",)),), ((1, ()),), ((None, ()),),
    ((("a",), ()),), (("a", ("a",) * 7),), (("a", (0,)),), (("a", (True,)),), (("a", {}),), (("a", {"a": 1}),), ("a", ()), ("ab", ()),
    tuple((sign, ()) for sign in "abcdefg"), (("a", ()), None), (None, ("a", ())), (("a", ()), ()), (("a", ("A",)), ("b", ())),
    (("aa", ()), ("a", ())), (("z", ()), ("aa", ())), (("a", ()),) * 5000, (("a", ("a",) * 15000),), "a", [], ["a"],
    (("a" * 9000, ()),), (("a", ([],)),), (("a", ({},)),), (([], ()),), (({}, ()),), (("a", ("a", ("a",))),),
]


def random_book(chance, most=4):
    words = sorted(chance.sample(["a", "b", "cc", "kobold", "abcdefgh", "z", "zz", "stem"], chance.randint(1, 6)))
    return tuple((word, tuple(chance.choices(words, k=chance.randint(0, most)))) for word in words)


def plain_growth(book, name, depth, most=100):
    """The ways that grow, room by room, or None if they are too many."""
    ways = []

    def grow(foot, word, left):
        if len(ways) > most:
            return
        room = len(ways) + 1
        ways.append((foot, room))
        if left > 0:
            for part in dict(book)[word]:
                grow(room, part, left - 1)

    grow(0, name, depth)
    return tuple(sorted(ways)) if len(ways) <= 99 else None


def plain_worths(book, name, depth, of):
    """What is had for each depth from what grows at the room, from the ends upward."""
    found = []
    for _ in range(depth + 1):
        last = found[-1] if found else {}
        found.append({word: of([last[part] for part in names] if last else []) for word, names in book})
    return [worth[name] for worth in found]


class Grown(Case):
    def test_interface(self):
        self.interface(
            module, is_book="thing", grown_label="book name depth", grown_number="book name depth", grown_ways="book name depth",
            grown_cave="book name depth", least_depth="book name k")

    def test_examples(self):
        self.has_examples(module, EXAMPLES)

    def test_is_book(self):
        chance = seeded(211)
        for book in BOOKS + [random_book(chance, 6) for _ in range(100)]:
            self.is_bool(True, self.call(is_book, book), book)
        self.is_bool(True, is_book(tuple((sign * 8, (sign * 8,) * 6) for sign in "abcxyz")))
        self.is_bool(True, is_book((("a", ()), ("aa", ()), ("b", ()))))
        for thing in NO_BOOKS:
            self.is_bool(False, self.call(is_book, thing), thing)

    def check_growth(self, book, name, depth):
        cave = self.call(grown_cave, book, name, depth)
        self.assertEqual(told(cave), told(plain_growth(book, name, depth)))
        many = self.call(grown_ways, book, name, depth)
        self.assertIs(type(many), int)
        label = self.call(grown_label, book, name, depth)
        self.is_bool(True, is_label(label))
        greatest = self.call(grown_number, book, name, depth)
        self.assertIs(type(greatest), int)
        self.assertEqual(greatest, label[0])
        self.assertEqual(many > 99, cave is None)
        if cave is not None:
            self.is_bool(True, is_tree(cave))
            self.assertEqual(len(cave), many)
            self.assertEqual(label, branch_label(cave, 0, 1), (book, name, depth))
            self.assertEqual(greatest, number(cave))
        return cave

    def test_trees_that_grow_by_the_words(self):
        chance = seeded(212)
        kept = 0
        for book in BOOKS + [random_book(chance) for _ in range(60)]:
            for name, _ in book:
                for depth in (0, 1, 2, 3, 4, 6, 9):
                    kept += self.check_growth(book, name, depth) is not None
        self.assertGreater(kept, 400)

    def test_name_by_name(self):
        book = (("a", ("b", "c", "b")), ("b", ("c",)), ("c", ()))
        self.assertEqual(self.call(grown_cave, book, "a", 0), ((0, 1),))
        self.assertEqual(self.call(grown_cave, book, "a", 1), ((0, 1), (1, 2), (1, 3), (1, 4)))
        self.assertEqual(grown_cave(book, "a", 2), ((0, 1), (1, 2), (1, 4), (1, 5), (2, 3), (5, 6)))
        self.assertEqual(grown_cave(book, "a", 200), grown_cave(book, "a", 2))
        book = (("a", ("c", "b")), ("b", ("c", "b")), ("c", ()))
        self.assertEqual(grown_cave(book, "a", 3), ((0, 1), (1, 2), (1, 3), (3, 4), (3, 5), (5, 6), (5, 7)))

    def test_nothing_grows_at_depth_0(self):
        for book in BOOKS:
            for name, _ in book:
                self.assertEqual(self.check_growth(book, name, 0), ((0, 1),))
                self.assertEqual((grown_label(book, name, 0), grown_ways(book, name, 0)), ((1,), 1))

    def test_names_of_which_nothing_grows(self):
        for depth in (0, 1, 2, 50, 200):
            self.assertEqual(self.check_growth(BOOK, "leaf", depth), ((0, 1),))
            self.assertEqual((grown_label(BOOK, "leaf", depth), grown_ways(BOOK, "leaf", depth)), ((1,), 1))

    def test_just_99_ways(self):
        self.assertEqual(self.check_growth(CHAIN, "a", 98), path_of(99))
        self.assertIs(self.check_growth(CHAIN, "a", 99), None)
        self.assertEqual(grown_ways(CHAIN, "a", 99), 100)
        # What grows for c has 3 ways, for b then 1 + 5 * 3, for a then 1 + 6 * 16, and for s two more.
        book = (("a", ("b",) * 6), ("b", ("c",) * 5), ("c", ("d", "d")), ("d", ()), ("s", ("t",)), ("t", ("a",)))
        self.assertEqual((grown_ways(book, "s", 5), len(self.check_growth(book, "s", 5))), (99, 99))
        book = book[:4] + (("s", ("t",)), ("t", ("a", "d")))
        self.assertEqual((grown_ways(book, "s", 5), self.check_growth(book, "s", 5)), (100, None))

    def test_great_depths(self):
        chance = seeded(213)
        for book in BOOKS + [random_book(chance, 6) for _ in range(8)]:
            name = chance.choice(book)[0]
            labels = plain_worths(book, name, 200, plain_label)
            many = plain_worths(book, name, 200, lambda parts: 1 + sum(parts))
            for depth in (5, 20, 98, 99, 150, 199, 200):
                self.assertEqual(self.call(grown_label, book, name, depth), labels[depth])
                self.assertEqual(self.call(grown_ways, book, name, depth), many[depth])
                self.assertEqual(self.call(grown_number, book, name, depth), labels[depth][0])
                self.assertEqual(grown_cave(book, name, depth) is None, many[depth] > 99)

    def test_numbers_of_many_ways(self):
        self.assertEqual(grown_ways(BOOK, "two", 200), 2 ** 201 - 1)
        self.assertEqual(grown_ways(BOOK, "three", 200), (3 ** 201 - 1) // 2)
        self.assertEqual(grown_ways((("a", ("a",) * 6),), "a", 200), (6 ** 201 - 1) // 5)
        self.assertEqual([grown_number(BOOK, "two", depth) for depth in range(201)], [(depth + 3) // 2 for depth in range(201)])
        self.assertEqual([grown_number(BOOK, "three", depth) for depth in range(201)], list(range(1, 202)))
        self.assertEqual([grown_number(CHAIN, "a", depth) for depth in (0, 1, 99, 200)], [1] * 4)
        self.assertIs(self.call(grown_cave, BOOK, "three", 200), None)

    def test_long_labels(self):
        lengths = [len(grown_label(BOOKS[-1], name, depth)) for name in "abcdef" for depth in range(0, 201, 7)]
        self.assertGreater(max(lengths), 60)
        for name in "abcdef":
            labels = plain_worths(BOOKS[-1], name, 200, plain_label)
            for depth in (100, 196, 197, 198, 199, 200):
                self.assertEqual(grown_label(BOOKS[-1], name, depth), labels[depth])

    def test_least_depth(self):
        chance = seeded(214)
        for book in BOOKS + [random_book(chance) for _ in range(12)]:
            name = chance.choice(book)[0]
            numbers = [label[0] for label in plain_worths(book, name, 200, plain_label)]
            for k in (1, 2, 3, 4, 5, 10, 57, 100, 101, 102, 150, 200, 201, 202, 10 ** 40 - 1):
                depths = [depth for depth in range(201) if numbers[depth] >= k]
                self.assertEqual(told(self.call(least_depth, book, name, k)), told(depths[0] if depths else None), (book, name, k))

    def test_least_depth_at_both_ends(self):
        self.assertEqual([least_depth(BOOK, "three", k) for k in (1, 2, 200, 201)], [0, 1, 199, 200])
        self.assertIs(self.call(least_depth, BOOK, "three", 202), None)
        self.assertEqual([least_depth(BOOK, "two", k) for k in (1, 2, 3, 4, 101)], [0, 1, 3, 5, 199])
        self.assertIs(least_depth(BOOK, "two", 102), None)
        self.assertEqual((least_depth(BOOK, "leaf", 1), least_depth(CHAIN, "a", 1)), (0, 0))
        self.assertIs(least_depth(CHAIN, "a", 2), None)

    def test_no_books(self):
        for thing in NO_BOOKS:
            for function in (grown_label, grown_number, grown_ways, grown_cave, least_depth):
                self.raises(InvalidBook, function, thing, "a", 1)

    def test_unknown_names(self):
        things = THINGS + ["b", "tw", "twoo", "Two", "two ", ("two",), ["two"], {"two": 1}, ("two", ("two", "two")), "leaftwo"]
        for thing in things:
            for function in (grown_label, grown_number, grown_ways, grown_cave, least_depth):
                self.raises(UnknownName, function, BOOK, thing, 1)

    def test_no_depths(self):
        for thing in NO_NUMBERS + [201, 202, 10 ** 39, 10 ** 40 - 1, [0], (0,)]:
            for name in ("leaf", "three"):
                for function in (grown_label, grown_number, grown_ways, grown_cave):
                    self.raises(InvalidNumber, function, BOOK, name, thing)

    def test_no_numbers(self):
        for thing in NO_POSITIVES:
            self.raises(InvalidNumber, least_depth, BOOK, "leaf", thing)

    def test_the_first_error(self):
        for thing in THINGS[::4]:
            for function in (grown_label, grown_number, grown_ways, grown_cave, least_depth):
                self.raises(InvalidBook, function, thing, thing, thing)
                self.raises(InvalidBook, function, (("b", ()), ("a", ())), "c", thing)
                self.raises(UnknownName, function, BOOK, "b", thing)
                self.raises(UnknownName, function, BOOK, thing, -1)


if __name__ == "__main__":
    unittest.main()
