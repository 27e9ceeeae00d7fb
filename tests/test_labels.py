"""[8], [9], [19]: labels of branches, and the numbers of trees."""

import functools
import itertools
import unittest

from cavesweep import labels as module
from cavesweep.errors import InvalidLabel, InvalidTree, InvalidWay
from cavesweep.labels import branch_label, is_label, joined, number, top
from cavesweep.least import least
from support import FAR, GREAT, NO_TREES, ONE, PATH, RING, STAR, THINGS
from support import Case, nested_threes, path_of, plain_branch, plain_least, plain_neighbours, random_tree, seeded, star_of
from support import plain_label, plain_top, told, without_ends

EXAMPLES = """
>>> from cavesweep.labels import branch_label, joined, number, top
>>> joined([]), joined([(1,)]), joined([(1,), (1,)]), joined([(2,), (2,)]), joined([(2, 1), (1,)])
((1,), (1,), (2,), (2, 1), (3,))
>>> top([(1,), (1,)]), top([(1,), (1,), (1,)]), top([(2, 1), (2,)])
(1, 2, 3)
>>> number(((0, 1), (0, 2), (0, 3))), branch_label(((0, 1), (0, 2), (0, 3)), 1, 0)
(2, (2,))
"""

# All labels with numbers up to 4.
POOL = [rows[::-1] for many in (1, 2, 3, 4) for rows in itertools.combinations((1, 2, 3, 4), many)]

# Things that are no labels, though some equal one, or nearly are one.
NO_LABELS = [
    (), [1], [2, 1], (0,), (-1,), (1, 0), (2, -1), (1, 1), (2, 2), (1, 2), (3, 1, 1), (3, 1, 2), (3, 2, 3), (True,), (2, True),
    (False,), (None,), ("1",), ((1,),), (2, (1,)), (2, [1]), (2, None), (2, {}), {1: 1}, {1}, "1", "21", 1, None, True, 10 ** 39,
    (3, 2, 1, 0), tuple(range(20000)), (1,) * 20000, tuple(range(19000, -1, -1)), (5, 4, 3, True), (1 - 10 ** 40,),
]

TREES = [
    ONE, FAR, PATH, STAR, path_of(9), star_of(9), nested_threes(3), nested_threes(4), nested_threes(5),
    ((98, 99),), ((0, 50), (50, 99)), ((3, 97), (50, 97), (97, 98), (97, 99)), path_of(99), star_of(99),
    tuple(sorted(path_of(30) + tuple((room, room + 40) for room in range(30)))),
]


def plain_branch_label(tree, room, other):
    beyond = [one for one in plain_neighbours(tree, other) if one != room]
    return plain_label([plain_branch_label(tree, other, one) for one in beyond])


def all_ends(tree):
    return [ends for way in tree for ends in (way, way[::-1])]


@functools.cache
def plain_number(tree):
    """The number of a tree by its threes of branches, as [8] tells, without any label."""
    found = 1
    for room in {room for way in tree for room in way}:
        near = plain_neighbours(tree, room)
        if len(near) > 2:
            numbers = sorted(plain_number(plain_branch(tree, room, other)) for other in near)
            found = max(found, numbers[-3] + 1)
    return found


class Labels(Case):
    def test_interface(self):
        self.interface(
            module, is_label="thing", joined="labels", top="labels", branch_label="tree room other", number="tree")

    def test_examples(self):
        self.has_examples(module, EXAMPLES)

    def test_is_label(self):
        for label in POOL + [(1,), (10 ** 40 - 1,), (10 ** 40 - 1, 10 ** 39, 1), (99, 98), tuple(range(20000, 0, -1))]:
            self.is_bool(True, self.call(is_label, label), label)
        for thing in NO_LABELS + THINGS:
            self.is_bool(False, self.call(is_label, thing), thing)

    def check_joined(self, labels):
        label = self.call(joined, labels)
        self.assertEqual(told(label), told(plain_label(labels)), labels)
        self.is_bool(True, is_label(label))
        if labels:
            self.assertEqual(told(self.call(top, labels)), told(plain_top(labels)), labels)

    def test_no_labels_and_each_one_alone(self):
        self.assertEqual(self.call(joined, []), (1,))
        for label in POOL:
            self.check_joined([label])
            self.assertEqual((joined([label]), top([label])), (label, label[0]))

    def test_all_twos_and_threes_in_each_order(self):
        for labels in itertools.product(POOL, repeat=2):
            self.check_joined(list(labels))
        for labels in itertools.product(POOL, repeat=3):
            self.assertEqual((joined(list(labels)), top(list(labels))), (plain_label(labels), plain_top(labels)), labels)

    def test_fours_and_fives(self):
        for labels in itertools.combinations_with_replacement(POOL, 4):
            self.assertEqual(joined(list(labels)), plain_label(labels), labels)
            self.assertEqual(top(list(labels)), plain_top(labels), labels)
        for labels in itertools.combinations_with_replacement(POOL[:10], 5):
            self.assertEqual(joined(list(labels)), plain_label(labels), labels)
            self.assertEqual(top(list(labels)), plain_top(labels), labels)

    def test_the_order_does_not_matter(self):
        chance = seeded(191)
        for _ in range(200):
            labels = chance.choices(POOL, k=chance.randint(2, 6))
            mixed = chance.sample(labels, len(labels))
            self.assertEqual((joined(labels), top(labels)), (joined(mixed), top(mixed)))

    def test_random_labels_of_many_numbers(self):
        chance = seeded(192)
        for _ in range(600):
            most = chance.choice((6, 12, 40))
            labels = []
            for _ in range(chance.randint(1, 7)):
                rows = chance.sample(range(1, most + 1), chance.randint(1, most))
                labels.append(tuple(sorted(rows, reverse=True)))
            self.check_joined(labels)

    def test_labels_that_share_few_numbers(self):
        # Of numbers that stand once alone many are left out ahead of the end.
        chance = seeded(193)
        for _ in range(600):
            labels = [[] for _ in range(chance.randint(1, 5))]
            for part in range(40, 0, -1):
                chance.choice(labels).append(part)
            for part in chance.sample(range(1, 41), chance.choice((0, 0, 1, 2))):
                row = chance.choice(labels)
                row[:] = sorted(set(row) | {part}, reverse=True)
            self.check_joined([tuple(row) for row in labels if row])

    def test_with_and_without_a_second_number(self):
        cases = [
            ([(3,), (3,)], (3, 1), 3), ([(3, 1), (3,)], (4,), 4), ([(3,), (3, 2)], (4,), 4), ([(3, 1), (3, 1)], (4,), 4),
            ([(3,)] * 3, (4,), 4), ([(1,)] * 2, (2,), 1), ([(1,)] * 3, (2,), 2), ([(3,), (2,), (2,), (2,)], (3,), 3),
            ([(3, 1), (2,)], (3, 2), 3), ([(3, 1), (2,), (2,)], (3, 2, 1), 3), ([(3, 2), (2,), (2,)], (4,), 4),
            ([(3, 2), (2,)], (3, 2, 1), 3), ([(3, 1), (1,)], (3, 2), 3), ([(3, 1), (1,), (1,)], (3, 2), 3),
            ([(2, 1), (1,)], (3,), 2), ([(2, 1), (1,), (1,)], (3,), 3), ([(3, 2, 1), (2,)], (4,), 4),
            ([(3, 2, 1), (1,)], (4,), 3), ([(3, 2, 1), (1,), (1,)], (4,), 4), ([(5, 2), (4, 1)], (5, 4, 2), 5),
            ([(5, 3, 1), (4, 2)], (5, 4, 3, 2), 5), ([(3,), (2, 1)], (3,), 3), ([(1,), (3,), (3,)], (3, 1), 3),
        ]
        for labels, label, greatest in cases:
            for mixed in (labels, labels[::-1]):
                self.assertEqual((self.call(joined, mixed), self.call(top, mixed)), (label, greatest), mixed)

    def test_great_numbers_and_long_labels(self):
        great = 10 ** 40 - 1
        self.assertEqual(self.call(joined, [(great,), (great,)]), (great, 1))
        self.assertEqual(self.call(joined, [(great, 1), (great,)]), (great + 1,))
        self.assertEqual(self.call(top, [(great,)] * 3), great + 1)
        self.assertEqual(self.call(joined, [(great, great - 1), (great - 1,), (great - 1,)]), (great + 1,))
        long = tuple(range(19000, 0, -1))
        self.assertEqual((self.call(joined, [long]), self.call(top, [long])), (long, 19000))
        self.assertEqual((joined([long, (1,)]), top([long, (1,)]), top([long, (1,), (1,)])), ((19001,), 19000, 19001))
        self.assertEqual((joined([(1,)] * 19000), top([(1,)] * 19000)), ((2,), 2))
        odd, even = tuple(range(9999, 0, -2)), tuple(range(10000, 0, -2))
        self.assertEqual((joined([odd, even]), top([odd, even])), (tuple(range(10000, 1, -1)), 10000))
        self.assertEqual(joined([odd, (2,), even]), tuple(range(10000, 0, -1)))
        self.assertEqual((joined([odd, even, (3,)]), top([odd, even, (3,)])), ((10001,), 10001))

    def test_branches_and_numbers_by_the_words(self):
        chance = seeded(194)
        some = [random_tree(chance, chance.randint(1, 14), chance.choice((1, 2, 4, 100))) for _ in range(40)]
        for tree in TREES[:9] + some:
            for room, other in all_ends(tree):
                self.assertEqual(
                    told(self.call(branch_label, tree, room, other)), told(plain_branch_label(tree, room, other)), tree)

    def test_numbers_from_every_room(self):
        chance = seeded(195)
        some = [random_tree(chance, many, chance.choice((1, 2, 3, 6, 100))) for many in range(1, 61, 2)]
        for tree in TREES + some:
            found = self.call(number, tree)
            self.assertIs(type(found), int)
            label_of = {ends: branch_label(tree, *ends) for ends in all_ends(tree)}
            for room in sorted({room for way in tree for room in way}):
                near = plain_neighbours(tree, room)
                labels = [label_of[room, other] for other in near]
                self.assertEqual((found, found), (plain_top(labels), top(labels)), (tree, room))
                for other in near:
                    labels = [label_of[room, beyond] for beyond in near if beyond != other]
                    self.assertEqual(label_of[other, room], joined(labels))

    def test_numbers_by_threes_of_branches(self):
        chance = seeded(196)
        some = [random_tree(chance, chance.randint(8, 15), chance.choice((3, 6, 100))) for _ in range(25)]
        for tree in TREES[:8] + some + [path_of(12), star_of(20)]:
            self.assertEqual(number(tree), plain_number(tree), tree)

    def test_numbers_are_the_least_ones_of_small_trees(self):
        chance = seeded(197)
        some = [random_tree(chance, many, back) for many in range(1, 10) for back in (1, 2, 3, 100, 100, 100)]
        for tree in some + [STAR, ONE, nested_threes(3)]:
            self.assertEqual(number(tree), least(tree), tree)
        for tree in some[:40]:
            self.assertEqual(number(tree), plain_least(tree), tree)

    def test_the_first_number_is_that_of_the_branch(self):
        chance = seeded(198)
        for many in range(1, 10):
            for back in (2, 100, 100):
                tree = random_tree(chance, many, back)
                for room, other in all_ends(tree):
                    branch = plain_branch(tree, room, other)
                    self.assertEqual(branch_label(tree, room, other)[0], least(branch), (tree, room, other))
                    self.assertEqual(branch_label(tree, room, other)[0], number(branch))

    def test_known_trees(self):
        for many in range(1, 100):
            self.assertEqual((number(path_of(many)), branch_label(path_of(many), 0, 1)), (1, (1,)))
        for many in range(3, 100):
            self.assertEqual((number(star_of(many)), branch_label(star_of(many), 1, 0)), (2, (2,)))
            self.assertEqual(branch_label(star_of(many), 0, many), (1,))
        for k in range(1, 6):
            tree = nested_threes(k)
            self.assertEqual((number(tree), len(tree)), (k, 3 ** (k - 1)))
            # Without any of its ends it needs a searcher less.
            for fewer in without_ends(tree):
                self.assertEqual(number(fewer), k - 1)
        self.assertEqual(number(((0, 1), (0, 2), (0, 3), (1, 4), (1, 5), (2, 6), (2, 7), (3, 8))), 2)

    def test_no_labels(self):
        for thing in THINGS:
            if told(thing) != "[]":
                self.raises(InvalidLabel, joined, thing)
            self.raises(InvalidLabel, top, thing)
        for thing in NO_LABELS:
            self.raises(InvalidLabel, top, [thing])
            for labels in ([thing], [(1,), thing], [thing, (1,)], [(2, 1), (2,), thing]):
                self.raises(InvalidLabel, joined, labels)
        for thing in (((1,),), ((1,), (1,)), {(1,): 1}, (), {}, "", None, (1,), (2, 1), [[1]], [[(1,)]], {0: (1,)}):
            self.raises(InvalidLabel, joined, thing)
            self.raises(InvalidLabel, top, thing)

    def test_no_trees(self):
        for thing in NO_TREES:
            self.raises(InvalidTree, number, thing)
            self.raises(InvalidTree, branch_label, thing, 0, 1)

    def test_no_ways(self):
        for tree in (STAR, PATH, path_of(99)):
            for thing in THINGS:
                if type(thing) is not int or thing not in (1, 2, 99):
                    self.raises(InvalidWay, branch_label, tree, 0, thing)
                    self.raises(InvalidWay, branch_label, tree, thing, 0)
                    self.raises(InvalidWay, branch_label, tree, 98, thing)
                self.raises(InvalidWay, branch_label, tree, thing, thing)
        for room, other in ((1, 2), (0, 4), (4, 0), (0, 0), (4, 5), (False, 1), (0, True), (1, False), (True, 0), ((0, 1), 1)):
            self.raises(InvalidWay, branch_label, STAR, room, other)
        self.assertEqual(branch_label(STAR, 1, 0), (2,))

    def test_the_first_error(self):
        for tree in NO_TREES[::3]:
            for thing in THINGS[::7]:
                self.raises(InvalidTree, branch_label, tree, thing, thing)
        self.raises(InvalidTree, branch_label, RING, 0, 3)
        self.raises(InvalidTree, branch_label, GREAT, 0, 1)


if __name__ == "__main__":
    unittest.main()
