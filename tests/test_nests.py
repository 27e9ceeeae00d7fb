"""[10], [20]: nests."""

import unittest

from cavesweep import nests as module
from cavesweep.errors import InvalidNumber, InvalidTree
from cavesweep.labels import number
from cavesweep.least import least
from cavesweep.nests import is_nest, nest
from support import FAR, GREAT, NO_POSITIVES, NO_TREES, ONE, PATH, RING, STAR, THINGS
from support import Case, nested_threes, path_of, plain_branch, plain_neighbours, random_tree, seeded, star_of, told, without_ends

EXAMPLES = """
>>> from cavesweep.nests import is_nest, nest
>>> star = ((0, 1), (0, 2), (0, 3))
>>> nest(star, 2), nest(star, 3) is None
((0, ((1, (0, 1)), (2, (0, 2)), (3, (0, 3)))), True)
>>> is_nest(star, 1, (0, 3)), is_nest(star, 2, (0, 3))
(True, False)
"""

# Three branches at 50 that each have a three, and one way more.
THREES = (
    (1, 10), (2, 10), (3, 20), (4, 20), (5, 30), (6, 30), (7, 50), (10, 50), (20, 50), (30, 50))
NEST = (50, (
    (10, (10, ((1, (1, 10)), (2, (2, 10)), (50, (10, 50))))),
    (20, (20, ((3, (3, 20)), (4, (4, 20)), (50, (20, 50))))),
    (30, (30, ((5, (5, 30)), (6, (6, 30)), (50, (30, 50)))))))


def plain_is_nest(tree, k, thing):
    """The rules of [10] for things that are built of tuples and integers as nests are, told anew."""
    if k == 1:
        return thing in tree
    room, three = thing
    if len(three) != 3 or not three[0][0] < three[1][0] < three[2][0]:
        return False
    near = plain_neighbours(tree, room)
    return all(
        other in near and plain_is_nest(plain_branch(tree, room, other), k - 1, inner) for other, inner in three)


def is_of_tuples(thing):
    return type(thing) is int or (type(thing) is tuple and all(is_of_tuples(part) for part in thing))


def all_threes(tree):
    """All things like a nest of 2 that the rooms and ways of a tree can make, nests and others."""
    rooms = sorted({room for way in tree for room in way})
    for room in rooms:
        for a in rooms:
            for b in rooms:
                for c in rooms:
                    yield (room, tuple((other, (min(room, other), max(room, other))) for other in (a, b, c)))


def changed(thing, path, worth):
    """A nest with another thing at the place to which the indexes lead."""
    if not path:
        return worth
    kind = type(thing)
    return kind(changed(part, path[1:], worth) if at == path[0] else part for at, part in enumerate(thing))


def places(thing):
    """The indexes that lead to each part of a thing."""
    yield ()
    if isinstance(thing, tuple):
        for at, part in enumerate(thing):
            for path in places(part):
                yield (at,) + path


def part_at(thing, path):
    for at in path:
        thing = thing[at]
    return thing


class Nests(Case):
    def test_interface(self):
        self.interface(module, is_nest="tree k thing", nest="tree k")

    def test_examples(self):
        self.has_examples(module, EXAMPLES)

    def check_nests(self, tree):
        greatest = number(tree)
        for k in range(1, greatest + 1):
            found = self.call(nest, tree, k)
            self.assertTrue(is_of_tuples(found))
            self.assertTrue(plain_is_nest(tree, k, found), (tree, k, found))
            self.is_bool(True, self.call(is_nest, tree, k, found))
            for other in (1, 2, 3, 4, 5, 6, 10 ** 40 - 1):
                if other != k:
                    self.is_bool(False, is_nest(tree, other, found))
        for k in (greatest + 1, greatest + 2, 50, 10 ** 40 - 1):
            self.assertIs(self.call(nest, tree, k), None, (tree, k))
        return greatest

    def test_trees_of_all_sizes(self):
        chance = seeded(201)
        found = {self.check_nests(random_tree(chance, many, back)) for many in range(1, 100, 3) for back in (1, 3, 100)}
        self.assertLessEqual({1, 2, 3}, found)

    def test_known_trees(self):
        for k in range(1, 6):
            self.assertEqual(self.check_nests(nested_threes(k)), k)
            for tree in without_ends(nested_threes(k))[:4]:
                self.assertEqual(self.check_nests(tree), k - 1)
        for tree in (ONE, FAR, PATH, path_of(99)):
            self.assertEqual(self.check_nests(tree), 1)
        for tree in (STAR, star_of(99)):
            self.assertEqual(self.check_nests(tree), 2)
        self.assertEqual(self.check_nests(THREES), 3)

    def test_a_tree_of_thirty_ways(self):
        chance = seeded(202)
        for back in (2, 5, 10, 100, 100, 100):
            self.check_nests(random_tree(chance, 30, back))
        tree = tuple(sorted(nested_threes(4) + ((0, 97), (97, 98), (98, 99))))
        self.assertEqual((len(tree), self.check_nests(tree)), (30, 4))

    def test_just_as_the_least_number_says(self):
        chance = seeded(203)
        for many in range(1, 10):
            for back in (2, 100, 100):
                tree = random_tree(chance, many, back)
                for k in range(1, 5):
                    self.assertEqual(nest(tree, k) is None, least(tree) < k, (tree, k))

    def test_nests_of_one(self):
        for tree in (STAR, PATH, FAR):
            for room in range(100):
                for other in (0, 1, 2, 3, 98, 99):
                    self.is_bool((room, other) in tree, is_nest(tree, 1, (room, other)))
            self.assertIn(self.call(nest, tree, 1), tree)
        for thing in ([0, 1], (False, 1), (0, True), (1, 0), (0, 4), (1, 2), (0, 1, 1), (0,), ((0, 1),), [(0, 1)], ("0", "1")):
            self.is_bool(False, self.call(is_nest, STAR, 1, thing), thing)

    def test_all_nests_of_two_of_small_trees(self):
        for tree in (PATH, STAR, ((0, 1), (1, 2), (1, 3), (1, 4)), ((0, 2), (1, 2), (2, 3), (3, 4), (3, 5))):
            for thing in all_threes(tree):
                self.is_bool(plain_is_nest(tree, 2, thing), is_nest(tree, 2, thing), thing)

    def test_inner_ways_anywhere_in_the_branch(self):
        tree = ((0, 1), (0, 2), (0, 3), (1, 4), (2, 5))
        for way in tree:
            for other in tree:
                thing = (0, ((1, way), (2, other), (3, (0, 3))))
                self.is_bool(way in ((0, 1), (1, 4)) and other in ((0, 2), (2, 5)), is_nest(tree, 2, thing), thing)

    def test_three_at_rooms_of_the_branch_only(self):
        self.is_bool(True, self.call(is_nest, THREES, 3, NEST))
        # Ways that lie outside of the branch do not make one of its threes.
        for other in (7, 20, 30):
            inner = (50, tuple(sorted(((10, (10, 50)), (other, (min(other, 50), 50)), (7 if other != 7 else 20, (7, 50))))))
            self.is_bool(False, is_nest(THREES, 3, changed(NEST, (1, 0, 1), inner)), inner)
        # The three of another branch.
        self.is_bool(False, is_nest(THREES, 3, changed(NEST, (1, 0, 1), NEST[1][1][1])))
        self.is_bool(False, is_nest(THREES, 3, changed(NEST, (1, 2, 1), NEST[1][1][1])))
        # In the branch at 50 by 10 there is but one branch at 10 by 50: the way itself.
        self.is_bool(False, is_nest(THREES, 3, changed(NEST, (1, 0, 1, 1, 2, 1), (7, 50))))

    def test_other_neighbours(self):
        ways = ((1, (0, 1)), (2, (0, 2)), (3, (0, 3)))
        for three in (ways[::-1], (ways[0], ways[2], ways[1]), (ways[0], ways[0], ways[1]), (ways[0], ways[1], ways[1])):
            self.is_bool(False, self.call(is_nest, STAR, 2, (0, three)), three)
        for at in range(3):
            for other in (-1, 0, 1, 2, 3, 4, 99, 100):
                thing = changed((0, ways), (1, at, 0), other)
                self.is_bool(other == at + 1, is_nest(STAR, 2, thing), thing)
        for room in (1, 2, 3, 4, 99, -1, 100):
            self.is_bool(False, is_nest(STAR, 2, (room, ways)))

    def test_two_or_four(self):
        tree = star_of(5)
        ways = tuple((room, (0, room)) for room in range(1, 6))
        for many in range(6):
            self.is_bool(many == 3, self.call(is_nest, tree, 2, (0, ways[:many])), many)
        self.is_bool(False, is_nest(tree, 2, (0,)))
        self.is_bool(False, is_nest(tree, 2, (0, ways[:3], ways[:3])))
        self.is_bool(False, is_nest(tree, 2, (0, (ways[0] + (1,),) + ways[1:3])))
        self.is_bool(False, is_nest(tree, 2, (0, ((1,),) + ways[1:3])))

    def test_each_part_of_another_kind(self):
        star = (0, ((1, (0, 1)), (2, (0, 2)), (3, (0, 3))))
        for tree, k, thing in ((STAR, 2, star), (THREES, 3, NEST)):
            for path in places(thing):
                part = part_at(thing, path)
                kinds = [None, "", "1", [], (), {}, (part,), [part], {part: part}, True, False, -1, 100, 10 ** 39, (part, part)]
                kinds += [bool(part)] if part in (0, 1) else []
                kinds += [list(part), part[:-1], part + part[:1], part[::-1]] if isinstance(part, tuple) else []
                for worth in kinds:
                    other = changed(thing, path, worth)
                    self.is_bool(False, is_nest(tree, k, other), other)
            self.is_bool(True, is_nest(tree, k, thing))

    def test_parts_changed_at_random(self):
        chance = seeded(204)
        for _ in range(300):
            tree = random_tree(chance, chance.randint(9, 25), chance.choice((4, 100)))
            k = min(number(tree), 3)
            thing = nest(tree, k)
            paths = [path for path in places(thing) if isinstance(part_at(thing, path), int)]
            for _ in range(4):
                other = changed(thing, chance.choice(paths), chance.choice(chance.choice(tree)))
                self.is_bool(plain_is_nest(tree, k, other), is_nest(tree, k, other), (tree, k, other))

    def test_things_that_are_none(self):
        for k in (1, 2, 3, 10 ** 40 - 1):
            for thing in THINGS:
                self.is_bool(k == 1 and told(thing) == "(0, 1)", self.call(is_nest, STAR, k, thing), thing)

    def test_very_deep_things(self):
        thing = (0, 1)
        for _ in range(400):
            thing = (0, ((1, thing), (2, thing), (3, thing)))
        for k in (1, 2, 401, 10 ** 40 - 1):
            self.is_bool(False, is_nest(STAR, k, thing))

    def test_no_trees(self):
        for thing in NO_TREES:
            self.raises(InvalidTree, is_nest, thing, 1, (0, 1))
            self.raises(InvalidTree, nest, thing, 1)

    def test_no_numbers(self):
        for tree in (STAR, ONE, path_of(99)):
            for thing in NO_POSITIVES:
                self.raises(InvalidNumber, is_nest, tree, thing, (0, 1))
                self.raises(InvalidNumber, nest, tree, thing)

    def test_the_first_error(self):
        for tree in NO_TREES[::5] + [RING, GREAT]:
            for thing in NO_POSITIVES[::11]:
                self.raises(InvalidTree, is_nest, tree, thing, thing)
                self.raises(InvalidTree, nest, tree, thing)
        for thing in NO_POSITIVES:
            self.raises(InvalidNumber, is_nest, STAR, thing, thing)


if __name__ == "__main__":
    unittest.main()
