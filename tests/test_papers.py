"""Promise 7.1: papers."""

import random
import unittest

from caisson.papers import check_paper, paper_of
from caisson.talks import ReadTalk
from caisson.volumes import Volume
from tests.disks import ALL_TREES, ANSWERS, SMALL_TREES, blank, huge, make, nested, run, settle, spoiled


def filled(shape, first=1):
    """Returns a volume whose leaves all differ, with its sealer and its disk."""
    sealer, disk = blank(shape)
    volume = Volume(shape, sealer, disk.anchor, list(range(shape.depth + 1)))
    for index in range(shape.leaves()):
        volume.write(index, [first + index] * shape.words)
    settle(volume, disk, volume.commit())
    assert volume.anchor == disk.anchor and volume.anchor[1] == 1
    return volume, sealer, disk


def read_paper(shape, sealer, disk, root, index):
    """Returns the paper that a read of a leaf makes."""
    talk = ReadTalk(shape, sealer, root, index)
    run(talk, disk)
    return paper_of(talk)


class PaperTest(unittest.TestCase):
    def test_papers_of_all_leaves(self):
        for fanout, depth in ALL_TREES:
            shape = make(fanout, depth, words=1 + depth % 4)
            volume, sealer, disk = filled(shape)
            root = volume.anchor[2][0]
            for index in range(shape.leaves()):
                talk = volume.read(index)
                run(talk, disk)
                paper = paper_of(talk)
                self.assertEqual([type(paper), len(paper)], [list, depth + 1])
                self.assertEqual(paper, talk.cells)
                self.assertEqual(paper[0], disk.blocks[root[0]])
                words = check_paper(shape, sealer, root, index, paper)
                self.assertEqual(words, (1 + index,) * shape.words)
                self.assertIs(type(words), tuple)

    def test_a_paper_of_a_blank_volume(self):
        shape = make(2, 1)
        sealer, disk = blank(shape)
        paper = read_paper(shape, sealer, disk, (1, 2), 1)
        self.assertEqual(paper, [("node", (0, 1), (0, 1)), ("leaf", 0)])
        # Its leaves are one cell, so it is a paper for each of them.
        self.assertEqual([check_paper(shape, sealer, (1, 2), index, paper) for index in (0, 1)], [(0,), (0,)])

    def test_a_paper_from_elsewhere(self):
        shape = make(2, 2)
        volume, sealer, disk = filled(shape)
        self.assertEqual(disk.blocks[9], ("node", (7, 8), (8, 9)))
        paper = [("node", (7, 8), (8, 9)), ("node", (5, 6), (6, 7)), ("leaf", 4)]
        self.assertEqual(check_paper(shape, sealer, volume.anchor[2][0], 3, paper), (4,))

    def test_another_index(self):
        for fanout, depth in SMALL_TREES:
            shape = make(fanout, depth)
            volume, sealer, disk = filled(shape)
            root = volume.anchor[2][0]
            for index in range(shape.leaves()):
                paper = read_paper(shape, sealer, disk, root, index)
                for other in range(shape.leaves()):
                    expected = (1 + index,) if other == index else None
                    self.assertEqual(check_paper(shape, sealer, root, other, paper), expected)

    def test_another_root(self):
        shape = make(2, 2, snapshots=2)
        volume, sealer, disk = filled(shape)
        settle(volume, disk, volume.snapshot())
        volume.write(1, [77])
        settle(volume, disk, volume.commit())
        present, old = volume.anchor[2]
        for index in range(4):
            for root, other in ((present, old), (old, present)):
                words = [77 if index == 1 and root == present else 1 + index]
                paper = read_paper(shape, sealer, disk, root, index)
                self.assertEqual(check_paper(shape, sealer, root, index, paper), tuple(words))
                self.assertIsNone(check_paper(shape, sealer, other, index, paper))
                for mark in (-1, 0, root[1] - 1, root[1] + 1, 10**9):
                    self.assertIsNone(check_paper(shape, sealer, (root[0], mark), index, paper))

    def test_a_cell_too_few_or_too_many(self):
        for fanout, depth in SMALL_TREES:
            shape = make(fanout, depth)
            volume, sealer, disk = filled(shape)
            root = volume.anchor[2][0]
            for index in range(shape.leaves()):
                paper = read_paper(shape, sealer, disk, root, index)
                wrong = [[], paper[:1], paper * 2, [None] * (depth + 1)]
                for at in range(depth + 1):
                    wrong.append(paper[:at] + paper[at + 1:])
                    wrong.append(paper[:at + 1] + paper[at:])
                for extra in ANSWERS:
                    wrong.append([extra] + paper)
                    wrong.append(paper + [extra])
                for spoilt in wrong:
                    self.assertIsNone(check_paper(shape, sealer, root, index, spoilt))

    def test_any_answer_in_place_of_each_cell(self):
        for fanout, depth in SMALL_TREES:
            shape = make(fanout, depth, words=2)
            volume, sealer, disk = filled(shape)
            root = volume.anchor[2][0]
            for index in range(shape.leaves()):
                paper = read_paper(shape, sealer, disk, root, index)
                for at in range(depth + 1):
                    others = [cell for cell in disk.blocks.values() if cell != paper[at]]
                    for lie in ANSWERS + spoiled(paper[at]) + others + [root, list(paper[at][1:])[0], volume.anchor]:
                        spoilt = paper[:at] + [lie] + paper[at + 1:]
                        self.assertIsNone(check_paper(shape, sealer, root, index, spoilt))

    def test_mixed_and_made_up_papers(self):
        shape = make(2, 3)
        volume, sealer, disk = filled(shape)
        root = volume.anchor[2][0]
        chance = random.Random(7)
        cells = list(disk.blocks.values())
        accepted = 0
        for _ in range(3000):
            index, other = chance.randrange(8), chance.randrange(8)
            paper = read_paper(shape, sealer, disk, root, other)
            true = read_paper(shape, sealer, disk, root, index)
            for at in range(4):
                paper[at] = chance.choice([paper[at], true[at], true[at], true[at], chance.choice(cells)])
            words = check_paper(shape, sealer, root, index, paper)
            self.assertEqual(words, (1 + index,) if paper == true else None)
            accepted += words is not None
        self.assertGreater(accepted, 100)
        self.assertLess(accepted, 2900)

    def test_a_tree_that_someone_else_has_made(self):
        shape = make(2, 2)
        volume, sealer, disk = filled(shape)
        forger = filled(shape, 100)
        root = volume.anchor[2][0]
        paper = read_paper(shape, forger[1], forger[2], forger[0].anchor[2][0], 2)
        self.assertEqual(check_paper(shape, forger[1], forger[0].anchor[2][0], 2, paper), (102,))
        self.assertIsNone(check_paper(shape, sealer, root, 2, paper))
        # The right cells down to the leaf, and then another leaf of a mark that has been given.
        true = read_paper(shape, sealer, disk, root, 2)
        sealer.mark(("leaf", 102))
        self.assertIsNone(check_paper(shape, sealer, root, 2, true[:2] + [("leaf", 102)]))

    def test_deep_and_huge_answers(self):
        shape = make(2, 1)
        volume, sealer, disk = filled(shape)
        root = volume.anchor[2][0]
        for lie in (nested(200000, ("leaf", 1)), huge(), ("leaf", nested(100000, 1)), ("node", huge(), huge())):
            true = read_paper(shape, sealer, disk, root, 0)
            self.assertIsNone(check_paper(shape, sealer, root, 0, [lie, true[1]]))
            self.assertIsNone(check_paper(shape, sealer, root, 0, [true[0], lie]))

    def test_the_paper_is_neither_modified_nor_shared(self):
        shape = make(2, 2)
        volume, sealer, disk = filled(shape)
        talk = volume.read(1)
        run(talk, disk)
        paper = paper_of(talk)
        kept = list(paper)
        check_paper(shape, sealer, volume.anchor[2][0], 1, paper)
        check_paper(shape, sealer, volume.anchor[2][0], 2, paper)
        self.assertEqual(paper, kept)
        paper.clear()
        self.assertEqual([talk.cells, paper_of(talk)], [kept, kept])
        talk.cells.append(None)
        self.assertEqual(paper, [])

    def test_checking_gives_no_mark(self):
        shape = make(2, 1)
        sealer, disk = blank(shape)
        self.assertIsNone(check_paper(shape, sealer, (1, 2), 0, [("new",), ("leaf", 9)]))
        self.assertEqual(check_paper(shape, sealer, (1, 2), 0, [disk.blocks[1], disk.blocks[0]]), (0,))
        self.assertEqual(sealer.mark(("next",)), 3)


if __name__ == "__main__":
    unittest.main()
