"""Promises 1.1 to 1.4: shapes, ways, inner ways, and numbers of cells and blocks."""

import itertools
import unittest

from caisson.errors import CaissonError, ShapeError
from caisson.shapes import Shape, needed, prefixes

NAMES = ("fanout", "depth", "words", "blocks", "snapshots")
RIGHT = {"fanout": 2, "depth": 3, "words": 2, "blocks": 50, "snapshots": 1}
WRONG = {
    "fanout": (-1, 0, 1, 5, 6, 10**30),
    "depth": (-1, 0, 7, 8, 10**30),
    "words": (-1, 0, 5, 6),
    "blocks": (-1, 0, 1, 2, 3, 1001, 1002),
    "snapshots": (-2, -1, 4, 5),
}
DEEPEST = {2: 6, 3: 3, 4: 3}
ALL_TREES = [(fanout, depth) for fanout in (2, 3, 4) for depth in range(1, DEEPEST[fanout] + 1)]


def tree(fanout, depth, snapshots=0):
    return Shape(fanout=fanout, depth=depth, words=1, blocks=500, snapshots=snapshots)


def told(**changes):
    """Returns the name that ShapeError tells, or None if the shape is right."""
    try:
        Shape(**{**RIGHT, **changes})
    except ShapeError as error:
        return error.name
    return None


def beginnings(shape, indexes):
    """The inner ways, found in another way than the program does."""
    found = []
    for index in indexes:
        for length in range(shape.depth):
            way = shape.way(index)[:length]
            if way not in found:
                found.append(way)
    return sorted(found, key=lambda way: (-len(way), way))


class RangesTest(unittest.TestCase):
    def test_both_ends_of_each_range(self):
        for fanout in (2, 3, 4):
            self.assertIsNone(told(fanout=fanout))
        for depth in range(1, 7):
            self.assertIsNone(told(depth=depth))
        for words in (1, 2, 3, 4):
            self.assertIsNone(told(words=words))
        for blocks in (4, 5, 999, 1000):
            self.assertIsNone(told(blocks=blocks))
        for snapshots in (0, 1, 2, 3):
            self.assertIsNone(told(snapshots=snapshots))

    def test_each_number_out_of_its_range_is_told(self):
        for name in NAMES:
            for number in WRONG[name]:
                with self.subTest(name=name, number=number):
                    self.assertEqual(told(**{name: number}), name)

    def test_the_fewest_blocks_go_with_the_depth(self):
        for fanout, depth in ALL_TREES:
            self.assertIsNone(told(fanout=fanout, depth=depth, blocks=depth + 1))
            self.assertEqual(told(fanout=fanout, depth=depth, blocks=depth), "blocks")

    def test_at_most_64_leaves(self):
        for fanout in (2, 3, 4):
            for depth in range(1, 9):
                many = fanout**depth
                expected = None if many <= 64 else "depth"
                self.assertEqual(told(fanout=fanout, depth=depth), expected, (fanout, depth))

    def test_the_first_of_several_is_told(self):
        for many in (2, 3, 4, 5):
            for names in itertools.combinations(NAMES, many):
                for at in (0, -1):
                    changes = {name: WRONG[name][at] for name in names}
                    self.assertEqual(told(**changes), names[0], changes)

    def test_too_many_leaves_come_before_the_later_numbers(self):
        self.assertEqual(told(fanout=3, depth=4, words=0, blocks=0, snapshots=9), "depth")
        self.assertEqual(told(fanout=4, depth=4, blocks=4), "depth")
        self.assertEqual(told(fanout=5, depth=6), "fanout")

    def test_snapshots_may_be_left_out(self):
        shape = Shape(fanout=2, depth=1, words=1, blocks=2)
        self.assertEqual(shape.snapshots, 0)

    def test_the_five_fields(self):
        shape = Shape(fanout=4, depth=3, words=2, blocks=77, snapshots=3)
        self.assertEqual([getattr(shape, name) for name in NAMES], [4, 3, 2, 77, 3])

    def test_the_error_is_caught_by_its_bases(self):
        for base in (ShapeError, CaissonError, ValueError):
            with self.assertRaises(base):
                Shape(fanout=2, depth=1, words=1, blocks=1)


class WaysTest(unittest.TestCase):
    def test_the_ways_to_all_leaves(self):
        for fanout, depth in ALL_TREES:
            shape = tree(fanout, depth)
            ways = [shape.way(index) for index in range(fanout**depth)]
            self.assertEqual(ways, list(itertools.product(range(fanout), repeat=depth)))

    def test_some_ways(self):
        self.assertEqual(tree(2, 1).way(1), (1,))
        self.assertEqual(tree(2, 6).way(1), (0, 0, 0, 0, 0, 1))
        self.assertEqual(tree(2, 6).way(32), (1, 0, 0, 0, 0, 0))
        self.assertEqual(tree(3, 3).way(5), (0, 1, 2))
        self.assertEqual(tree(4, 3).way(27), (1, 2, 3))

    def test_an_index_beyond_the_leaves_raises_no_error(self):
        for index in (-1, 8, 9, 100):
            self.assertEqual(len(tree(2, 3).way(index)), 3)


class InnerWaysTest(unittest.TestCase):
    def test_no_index(self):
        for fanout, depth in ALL_TREES:
            self.assertEqual(prefixes(tree(fanout, depth), []), [])
            self.assertEqual(needed(tree(fanout, depth), []), 0)

    def test_one_index(self):
        self.assertEqual(prefixes(tree(2, 1), [1]), [()])
        self.assertEqual(prefixes(tree(3, 3), [5]), [(0, 1), (0,), ()])
        self.assertEqual(needed(tree(3, 3), [5]), 4)

    def test_neighbours(self):
        self.assertEqual(prefixes(tree(2, 2), [0, 1]), [(0,), ()])
        self.assertEqual(prefixes(tree(2, 2), [1, 2]), [(0,), (1,), ()])
        self.assertEqual(needed(tree(2, 2), [0, 1]), 4)
        self.assertEqual(needed(tree(2, 2), [1, 2]), 5)

    def test_all_leaves_have_all_inner_cells_above(self):
        for fanout, depth in ALL_TREES:
            shape = tree(fanout, depth)
            expected = []
            for length in range(depth - 1, -1, -1):
                expected.extend(itertools.product(range(fanout), repeat=length))
            indexes = list(range(shape.leaves()))
            self.assertEqual(prefixes(shape, indexes), expected)
            self.assertEqual(prefixes(shape, indexes[::-1]), expected)
            self.assertEqual(needed(shape, indexes), shape.cells())

    def test_unsorted_lists(self):
        expected = [(0, 0), (1, 1), (0,), (1,), ()]
        for indexes in itertools.permutations([6, 1, 7, 0]):
            self.assertEqual(prefixes(tree(2, 3), list(indexes)), expected)
            self.assertEqual(needed(tree(2, 3), list(indexes)), 9)

    def test_all_lists_of_two_and_three_leaves(self):
        for fanout, depth in ((2, 3), (3, 2), (4, 2)):
            shape = tree(fanout, depth)
            for many in (2, 3):
                for indexes in itertools.combinations(range(shape.leaves()), many):
                    expected = beginnings(shape, indexes)
                    self.assertEqual(prefixes(shape, list(indexes)), expected)
                    self.assertEqual(needed(shape, list(indexes)), many + len(expected))

    def test_spread_leaves_of_the_deepest_trees(self):
        for fanout in (2, 3, 4):
            shape = tree(fanout, DEEPEST[fanout])
            for step in (2, 3, 5, 7, 11):
                indexes = list(range(shape.leaves() - 1, -1, -step))
                self.assertEqual(prefixes(shape, indexes), beginnings(shape, indexes))

    def test_the_list_given_is_not_modified(self):
        indexes = [3, 0, 2]
        prefixes(tree(2, 2), indexes)
        needed(tree(2, 2), indexes)
        self.assertEqual(indexes, [3, 0, 2])

    def test_results_share_no_list(self):
        shape = tree(2, 2)
        indexes = [3, 0]
        prefixes(shape, indexes).append("spoilt")
        self.assertEqual(prefixes(shape, indexes), [(0,), (1,), ()])
        empty = []
        self.assertIsNot(prefixes(shape, empty), empty)


class NumbersTest(unittest.TestCase):
    def test_leaves(self):
        for fanout, depth in ALL_TREES:
            self.assertEqual(tree(fanout, depth).leaves(), fanout**depth)

    def test_cells(self):
        for fanout, depth in ALL_TREES:
            expected = (fanout ** (depth + 1) - 1) // (fanout - 1)
            self.assertEqual(tree(fanout, depth).cells(), expected)
        self.assertEqual([tree(2, 6).cells(), tree(3, 3).cells(), tree(4, 3).cells()], [127, 40, 85])

    def test_ample(self):
        for snapshots in (0, 1, 2, 3):
            self.assertEqual(tree(2, 1, snapshots).ample(), 3 * (snapshots + 2))
            self.assertEqual(tree(4, 3, snapshots).ample(), 85 * (snapshots + 2))


if __name__ == "__main__":
    unittest.main()
