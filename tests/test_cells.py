"""Promises 0.3, 0.4 and 3.1: cells, entries, roots, the anchor, and blank volumes."""

import unittest

from caisson.cells import blank_volume, leaf, node
from caisson.sealer import Sealer
from caisson.shapes import Shape

ALL_TREES = [(2, depth) for depth in range(1, 7)] + [(fanout, depth) for fanout in (3, 4) for depth in (1, 2, 3)]


def make(fanout, depth, words=1, snapshots=0):
    return Shape(fanout=fanout, depth=depth, words=words, blocks=100, snapshots=snapshots)


class CellsTest(unittest.TestCase):
    def test_leaves(self):
        self.assertEqual(leaf([0]), ("leaf", 0))
        self.assertEqual(leaf([255, 0, 7, 1]), ("leaf", 255, 0, 7, 1))

    def test_nodes(self):
        self.assertEqual(node([(0, 1), (5, 9)]), ("node", (0, 1), (5, 9)))
        self.assertEqual(node([(1, 2)] * 4), ("node", (1, 2), (1, 2), (1, 2), (1, 2)))

    def test_more_than_the_limits_raise_no_error(self):
        self.assertEqual(leaf([1, 2, 3, 4, 5]), ("leaf", 1, 2, 3, 4, 5))
        self.assertEqual(leaf([256]), ("leaf", 256))
        self.assertEqual(node([(1, 1)] * 5), ("node",) + ((1, 1),) * 5)
        self.assertEqual([leaf([]), node([])], [("leaf",), ("node",)])

    def test_the_list_given_is_neither_modified_nor_kept(self):
        words, entries = [1, 2], [(0, 1), (0, 2)]
        cells = [leaf(words), node(entries)]
        self.assertEqual([words, entries], [[1, 2], [(0, 1), (0, 2)]])
        words.append(3)
        entries.clear()
        self.assertEqual(cells, [("leaf", 1, 2), ("node", (0, 1), (0, 2))])


class BlankVolumeTest(unittest.TestCase):
    def test_a_volume_of_each_fanout(self):
        self.assertEqual(
            blank_volume(make(2, 2, words=2), Sealer()),
            (
                [
                    (0, ("leaf", 0, 0)),
                    (1, ("node", (0, 1), (0, 1))),
                    (2, ("node", (1, 2), (1, 2))),
                ],
                ("anchor", 0, ((2, 3),)),
            ),
        )
        self.assertEqual(
            blank_volume(make(3, 1, words=4), Sealer()),
            (
                [(0, ("leaf", 0, 0, 0, 0)), (1, ("node", (0, 1), (0, 1), (0, 1)))],
                ("anchor", 0, ((1, 2),)),
            ),
        )
        self.assertEqual(
            blank_volume(make(4, 3, words=3), Sealer()),
            (
                [
                    (0, ("leaf", 0, 0, 0)),
                    (1, ("node", (0, 1), (0, 1), (0, 1), (0, 1))),
                    (2, ("node", (1, 2), (1, 2), (1, 2), (1, 2))),
                    (3, ("node", (2, 3), (2, 3), (2, 3), (2, 3))),
                ],
                ("anchor", 0, ((3, 4),)),
            ),
        )

    def test_volumes_of_each_shape(self):
        for fanout, depth in ALL_TREES:
            for words in (1, 2, 3, 4):
                writes, anchor = blank_volume(make(fanout, depth, words), Sealer())
                expected = [(0, ("leaf",) + (0,) * words)]
                for block in range(1, depth + 1):
                    expected.append((block, ("node",) + ((block - 1, block),) * fanout))
                self.assertEqual(writes, expected)
                self.assertEqual(anchor, ("anchor", 0, ((depth, depth + 1),)))

    def test_there_are_no_snapshots_even_where_some_may_be_kept(self):
        _, anchor = blank_volume(make(2, 1, snapshots=3), Sealer())
        self.assertEqual(anchor, ("anchor", 0, ((1, 2),)))

    def test_the_sealer_knows_each_cell(self):
        sealer = Sealer()
        writes, _ = blank_volume(make(2, 6), sealer)
        for block, cell in writes:
            self.assertTrue(sealer.knows(cell, block + 1))
        self.assertEqual(sealer.mark(("next",)), len(writes) + 1)

    def test_each_entry_leads_to_a_cell_that_is_accepted_for_it(self):
        for fanout, depth in ALL_TREES:
            sealer = Sealer()
            sealer.mark(("before",))
            writes, anchor = blank_volume(make(fanout, depth), sealer)
            disk = dict(writes)
            level = [anchor[2][0]]
            for _ in range(depth):
                cells = [disk[block] for block, mark in level if sealer.knows(disk[block], mark)]
                self.assertEqual(len(cells), len(level))
                level = [entry for cell in cells for entry in cell[1:]]
            self.assertEqual(len(level), fanout**depth)
            for block, mark in level:
                self.assertEqual(disk[block], ("leaf", 0))
                self.assertTrue(sealer.knows(disk[block], mark))

    def test_a_sealer_that_has_given_marks_before(self):
        sealer = Sealer()
        for word in range(1, 10):
            sealer.mark(("leaf", word))
        self.assertEqual(
            blank_volume(make(2, 2), sealer),
            (
                [(0, ("leaf", 0)), (1, ("node", (0, 10), (0, 10))), (2, ("node", (1, 11), (1, 11)))],
                ("anchor", 0, ((2, 12),)),
            ),
        )

    def test_a_sealer_that_has_marked_the_same_cells_before(self):
        sealer = Sealer()
        sealer.mark(("other",))
        sealer.mark(("leaf", 0))
        self.assertEqual(
            blank_volume(make(2, 1), sealer),
            ([(0, ("leaf", 0)), (1, ("node", (0, 2), (0, 2)))], ("anchor", 0, ((1, 3),))),
        )
        first = blank_volume(make(2, 3), sealer)
        self.assertEqual(blank_volume(make(2, 3), sealer), first)

    def test_the_results_are_of_the_kinds_of_the_interface(self):
        result = blank_volume(make(3, 2), Sealer())
        writes, anchor = result
        self.assertEqual([type(result), type(writes), type(anchor)], [tuple, list, tuple])
        self.assertEqual([type(write) for write in writes], [tuple] * 3)
        self.assertEqual([type(cell) for _, cell in writes], [tuple] * 3)
        self.assertEqual([type(anchor[2]), type(anchor[2][0])], [tuple, tuple])

    def test_results_share_no_list(self):
        shape, sealer = make(2, 2), Sealer()
        writes, anchor = blank_volume(shape, sealer)
        expected = (list(writes), anchor)
        writes.clear()
        self.assertEqual(blank_volume(shape, sealer), expected)
        self.assertEqual(sealer.mark(("next",)), 4)


if __name__ == "__main__":
    unittest.main()
