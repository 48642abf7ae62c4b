"""Promises 5.1 to 5.4: commits."""

import random
import unittest

from caisson.commits import CommitTalk
from caisson.errors import TalkError
from caisson.talks import ReadTalk, Talk
from tests.disks import (
    ALL_TREES, ANSWERS, SMALL_TREES, blank, entry_of, make, reference_commit, result_of, run, spoiled, tree_of,
)


def marks_of(disk):
    """Returns the marks of the cells of a blank volume, which are given in the order of the blocks."""
    return {disk.blocks[block]: block + 1 for block in sorted(disk.blocks)}


def choices(shape, chance):
    """Returns lists of indexes: one leaf, neighbours, far leaves, some and all leaves."""
    last = shape.leaves() - 1
    found = [[0], [last], [last // 2], [0, 1], [last - 1, last], [0, last], [last, 0], list(range(last + 1))]
    found.append(list(range(0, last + 1, 2)))
    for _ in range(3):
        found.append(chance.sample(range(last + 1), chance.randint(1, last + 1)))
    return [list(dict.fromkeys(indexes)) for indexes in found]


class EndedAtOnceTest(unittest.TestCase):
    def check_ended(self, talk, result, taken):
        self.assertIsInstance(talk, Talk)
        self.assertEqual([talk.request(), talk.answers, talk.taken()], [("done", result), 0, taken])
        self.assertIs(talk.has_ended(), True)
        with self.assertRaises(TalkError) as caught:
            talk.answer(None)
        self.assertEqual(caught.exception.answers, 0)
        self.assertEqual([talk.request(), talk.answers, talk.taken()], [("done", result), 0, taken])

    def test_no_changed_leaves(self):
        for fanout, depth in ALL_TREES:
            shape = make(fanout, depth)
            sealer, disk = blank(shape)
            for anchor in (disk.anchor, ("anchor", 41, disk.anchor[2] * 3)):
                for free in ([], [7], list(range(7, 300))):
                    self.check_ended(CommitTalk(shape, sealer, anchor, {}, free), ("committed", anchor), 0)
            self.assertEqual(sealer.mark(("next",)), depth + 2)

    def test_one_block_too_few(self):
        for fanout, depth in ALL_TREES:
            shape = make(fanout, depth)
            for indexes in choices(shape, random.Random(depth)):
                sealer, disk = blank(shape)
                changed = {index: (9,) for index in indexes}
                reads, others, _ = reference_commit(shape, disk, {}, disk.anchor, changed, list(range(500)))
                many = len(others) - 2
                for free in ([], list(range(10, 9 + many))):
                    self.check_ended(CommitTalk(shape, sealer, disk.anchor, changed, free), ("full", many), many)
                self.assertEqual(sealer.mark(("next",)), depth + 2)

    def test_just_enough_blocks_and_more(self):
        for fanout, depth in ALL_TREES:
            shape = make(fanout, depth)
            for indexes in choices(shape, random.Random(depth)):
                for more in (0, 1, 50):
                    sealer, disk = blank(shape)
                    changed = {index: (9,) for index in indexes}
                    reads, others, after = reference_commit(
                        shape, disk, marks_of(disk), disk.anchor, changed, list(range(10, 510))
                    )
                    many = len(others) - 2
                    talk = CommitTalk(shape, sealer, disk.anchor, changed, list(range(10, 10 + many + more)))
                    self.assertEqual([talk.has_ended(), talk.answers, talk.taken()], [False, 0, many])
                    self.assertEqual(run(talk, disk), reads + others)
                    self.assertEqual(talk.request(), ("done", ("committed", after)))
                    self.assertEqual([talk.taken(), talk.answers], [many, len(reads + others)])

    def test_known_numbers_of_blocks(self):
        sealer, disk = blank(make(2, 2))
        for indexes, many in (([0], 3), ([0, 1], 4), ([0, 3], 5), ([1, 2, 3], 6), ([0, 1, 2, 3], 7)):
            changed = {index: (1,) for index in indexes}
            for free in range(many):
                talk = CommitTalk(make(2, 2), sealer, disk.anchor, changed, list(range(3, 3 + free)))
                self.check_ended(talk, ("full", many), many)
            talk = CommitTalk(make(2, 2), sealer, disk.anchor, changed, list(range(3, 3 + many)))
            self.assertEqual([talk.request(), talk.taken()], [("read", 2), many])


class RequestsTest(unittest.TestCase):
    def check(self, shape, changed, free, expected, result):
        sealer, disk = blank(shape)
        talk = CommitTalk(shape, sealer, disk.anchor, changed, free)
        self.assertEqual(run(talk, disk), expected)
        self.assertEqual(talk.request(), ("done", ("committed", result)))
        self.assertEqual(disk.anchor, result)

    def test_one_leaf(self):
        self.check(
            make(2, 2), {2: (7,)}, [4, 6, 9, 11],
            [
                ("read", 2), ("read", 1),
                ("write", 4, ("leaf", 7)),
                ("write", 6, ("node", (4, 4), (0, 1))),
                ("write", 9, ("node", (1, 2), (6, 5))),
                ("flush",), ("anchor", ("anchor", 1, ((9, 6),))),
            ],
            ("anchor", 1, ((9, 6),)),
        )

    def test_neighbours(self):
        self.check(
            make(3, 2, words=2), {5: (1, 2), 4: (3, 4)}, [3, 4, 5, 6],
            [
                ("read", 2), ("read", 1),
                ("write", 3, ("leaf", 3, 4)),
                ("write", 4, ("leaf", 1, 2)),
                ("write", 5, ("node", (0, 1), (3, 4), (4, 5))),
                ("write", 6, ("node", (1, 2), (5, 6), (1, 2))),
                ("flush",), ("anchor", ("anchor", 1, ((6, 7),))),
            ],
            ("anchor", 1, ((6, 7),)),
        )

    def test_far_leaves(self):
        self.check(
            make(4, 2), {15: (8,), 0: (9,)}, [3, 4, 5, 6, 7],
            [
                ("read", 2), ("read", 1), ("read", 1),
                ("write", 3, ("leaf", 9)),
                ("write", 4, ("leaf", 8)),
                ("write", 5, ("node", (3, 4), (0, 1), (0, 1), (0, 1))),
                ("write", 6, ("node", (0, 1), (0, 1), (0, 1), (4, 5))),
                ("write", 7, ("node", (5, 6), (1, 2), (1, 2), (6, 7))),
                ("flush",), ("anchor", ("anchor", 1, ((7, 8),))),
            ],
            ("anchor", 1, ((7, 8),)),
        )

    def test_all_leaves_and_alike_cells(self):
        # Cells that are alike have one mark, and each its own block.
        self.check(
            make(2, 2), {3: (5,), 2: (5,), 1: (5,), 0: (5,)}, list(range(3, 10)),
            [
                ("read", 2), ("read", 1), ("read", 1),
                ("write", 3, ("leaf", 5)), ("write", 4, ("leaf", 5)),
                ("write", 5, ("leaf", 5)), ("write", 6, ("leaf", 5)),
                ("write", 7, ("node", (3, 4), (4, 4))),
                ("write", 8, ("node", (5, 4), (6, 4))),
                ("write", 9, ("node", (7, 5), (8, 6))),
                ("flush",), ("anchor", ("anchor", 1, ((9, 7),))),
            ],
            ("anchor", 1, ((9, 7),)),
        )

    def test_a_leaf_that_is_changed_to_what_it_was(self):
        self.check(
            make(2, 1), {1: (0,)}, [2, 3],
            [
                ("read", 1),
                ("write", 2, ("leaf", 0)), ("write", 3, ("node", (0, 1), (2, 1))),
                ("flush",), ("anchor", ("anchor", 1, ((3, 3),))),
            ],
            ("anchor", 1, ((3, 3),)),
        )

    def test_three_levels_read_the_short_ways_first(self):
        shape = make(2, 3)
        sealer, disk = blank(shape)
        root = disk.anchor[2][0]
        first = CommitTalk(shape, sealer, disk.anchor, {index: (index,) for index in range(8)}, list(range(10, 25)))
        run(first, disk)
        # Leaves 10 to 17, then the inner cells: 18 to 21, 22 and 23, and the root 24.
        talk = CommitTalk(shape, sealer, disk.anchor, {6: (60,), 1: (61,), 3: (62,)}, list(range(30, 60)))
        requests = run(talk, disk)
        self.assertEqual([block for _, block in requests[:6]], [24, 22, 23, 18, 19, 21])
        self.assertEqual([request[:2] for request in requests[6:15]], [("write", block) for block in range(30, 39)])
        self.assertEqual([request[2] for request in requests[6:9]], [("leaf", 61), ("leaf", 62), ("leaf", 60)])
        self.assertEqual([request[2][1][0] for request in requests[9:15]], [10, 12, 32, 33, 20, 36])
        self.assertEqual(requests[15:], [("flush",), ("anchor", disk.anchor)])
        self.assertEqual(tree_of(shape, sealer, disk, disk.anchor[2][0])[0], [
            (0,), (61,), (2,), (62,), (4,), (5,), (60,), (7,),
        ])
        self.assertEqual(tree_of(shape, sealer, disk, root)[0], [(0,)] * 8)

    def test_chains_of_commits_of_every_shape(self):
        for fanout, depth in ALL_TREES:
            shape = make(fanout, depth, words=1 + depth % 4)
            chance = random.Random(depth)
            sealer, disk = blank(shape)
            marks, words = marks_of(disk), [(0,) * shape.words] * shape.leaves()
            free = sorted(chance.sample(range(depth + 1, 3000), 2500))
            for indexes in choices(shape, chance):
                changed = {index: tuple([chance.randint(0, 2) for _ in range(shape.words)]) for index in indexes}
                before = disk.anchor
                old = tree_of(shape, sealer, disk, before[2][0])[0]
                reads, others, after = reference_commit(shape, disk, marks, before, changed, free)
                talk = CommitTalk(shape, sealer, before, changed, free)
                self.assertEqual(run(talk, disk), reads + others)
                self.assertEqual([talk.request(), disk.anchor], [("done", ("committed", after)), after])
                self.assertEqual(talk.taken(), len(others) - 2)
                for index in changed:
                    words[index] = changed[index]
                self.assertEqual(tree_of(shape, sealer, disk, after[2][0])[0], words)
                self.assertEqual(tree_of(shape, sealer, disk, before[2][0])[0], old)
                del free[:talk.taken()]

    def test_the_marks_are_those_of_the_sealer(self):
        shape = make(2, 2)
        sealer, disk = blank(shape)
        sealer.mark(("leaf", 8))
        sealer.mark(("stranger",))
        talk = CommitTalk(shape, sealer, disk.anchor, {0: (9,), 1: (8,)}, [3, 4, 5, 6])
        writes = [request for request in run(talk, disk) if request[0] == "write"]
        self.assertEqual(writes[2:], [
            ("write", 5, ("node", (3, 6), (4, 4))), ("write", 6, ("node", (5, 7), (1, 2))),
        ])
        self.assertEqual(disk.anchor, ("anchor", 1, ((6, 8),)))

    def test_the_snapshots_stay_and_the_epoch_rises_by_one(self):
        shape = make(2, 1, snapshots=3)
        sealer, disk = blank(shape)
        run(CommitTalk(shape, sealer, disk.anchor, {0: (1,)}, [2, 3]), disk)
        anchor = ("anchor", 40, (disk.anchor[2][0], (1, 2), disk.anchor[2][0], (1, 2)))
        talk = CommitTalk(shape, sealer, anchor, {1: (2,)}, [4, 5])
        result = result_of(talk, disk)
        self.assertEqual(result, ("committed", ("anchor", 41, ((5, 6), (1, 2), anchor[2][2], (1, 2)))))
        self.assertEqual(disk.blocks[5], ("node", (2, 3), (4, 5)))

    def test_it_is_the_present_root_that_is_changed(self):
        shape = make(2, 1, snapshots=1)
        sealer, disk = blank(shape)
        run(CommitTalk(shape, sealer, disk.anchor, {0: (1,)}, [2, 3]), disk)
        old = ("anchor", 5, ((1, 2), disk.anchor[2][0]))
        talk = CommitTalk(shape, sealer, old, {1: (7,)}, [4, 5])
        self.assertEqual(talk.request(), ("read", 1))
        run(talk, disk)
        self.assertEqual(disk.blocks[5], ("node", (0, 1), (4, 5)))

    def test_answers_to_writes_flush_and_anchor_are_ignored(self):
        shape = make(3, 2)
        for answer in ANSWERS:
            sealer, disk = blank(shape)
            changed = {3: (1,), 8: (2,)}
            reads, others, after = reference_commit(shape, disk, marks_of(disk), disk.anchor, changed, [5, 6, 7, 8, 9])
            talk = CommitTalk(shape, sealer, disk.anchor, changed, [5, 6, 7, 8, 9])
            run(talk, disk, len(reads))
            for request in others:
                self.assertEqual([talk.request(), talk.has_ended()], [request, False])
                talk.answer(answer)
            self.assertEqual(talk.request(), ("done", ("committed", after)))
            with self.assertRaises(TalkError) as caught:
                talk.answer(answer)
            self.assertEqual(caught.exception.answers, len(reads + others))
            self.assertEqual(talk.request(), ("done", ("committed", after)))

    def test_more_than_the_limits_raise_no_error(self):
        shape = make(2, 1)
        sealer, disk = blank(shape)
        talk = CommitTalk(shape, sealer, disk.anchor, {0: (256, 1, 2, 3, 4), 1: ()}, [2000, 2001, 2002])
        self.assertEqual(result_of(talk, disk), ("committed", ("anchor", 1, ((2002, 5),))))
        self.assertEqual([disk.blocks[2000], disk.blocks[2001]], [("leaf", 256, 1, 2, 3, 4), ("leaf",)])


class RefusedTest(unittest.TestCase):
    def test_any_answer_at_each_read(self):
        for fanout, depth in SMALL_TREES:
            shape = make(fanout, depth)
            sealer, disk = blank(shape)
            everything = {index: (index,) for index in range(shape.leaves())}
            run(CommitTalk(shape, sealer, disk.anchor, everything, list(range(10, 200))), disk)
            before = sealer.mark(("before",))
            for changed in ({0: (9,)}, {0: (9,), shape.leaves() - 1: (9,)}, {index: (9,) for index in everything}):
                free = list(range(200, 400))
                reads, _, _ = reference_commit(shape, disk, {}, disk.anchor, changed, free)
                for at, (_, block) in enumerate(reads):
                    others = [cell for cell in disk.blocks.values() if cell != disk.blocks[block]]
                    for lie in ANSWERS + spoiled(disk.blocks[block]) + others:
                        talk = CommitTalk(shape, sealer, disk.anchor, changed, free)
                        self.assertEqual(run(talk, disk, at), reads[:at])
                        self.assertEqual(talk.request(), reads[at])
                        talk.answer(lie)
                        self.assertEqual([talk.request(), talk.answers], [("refused", block), at + 1])
                        self.assertIs(talk.has_ended(), True)
                        with self.assertRaises(TalkError) as caught:
                            talk.answer(disk.blocks[block])
                        self.assertEqual(caught.exception.answers, at + 1)
                        self.assertEqual(talk.request(), ("refused", block))
            self.assertEqual(sealer.mark(("next",)), before + 1)

    def test_marks_are_given_all_together_after_the_last_read(self):
        for fanout, depth in SMALL_TREES:
            shape = make(fanout, depth)
            changed = {index: (index + 1,) for index in range(shape.leaves())}
            reads = sum(fanout**level for level in range(depth))
            for asked in range(reads + 1):
                sealer, disk = blank(shape)
                talk = CommitTalk(shape, sealer, disk.anchor, changed, list(range(10, 200)))
                run(talk, disk, asked)
                given = depth + 1 if asked < reads else depth + 1 + shape.cells()
                self.assertEqual(sealer.mark(("next",)), given + 1)

    def test_later_requests_give_no_more_marks(self):
        shape = make(2, 2)
        sealer, disk = blank(shape)
        talk = CommitTalk(shape, sealer, disk.anchor, {0: (1,)}, [3, 4, 5])
        run(talk, disk, 2)
        self.assertEqual(sealer.mark(("next",)), 7)
        run(talk, disk)
        self.assertEqual(sealer.mark(("another",)), 8)

    def test_the_next_commit_behind_a_refused_one(self):
        shape = make(2, 2)
        sealer, disk = blank(shape)
        liar = CommitTalk(shape, sealer, disk.anchor, {0: (1,)}, [3, 4, 5])
        liar.answer(disk.blocks[2])
        liar.answer(("node", (0, 1), (0, 2)))
        self.assertEqual(liar.request(), ("refused", 1))
        result_of(CommitTalk(shape, sealer, disk.anchor, {0: (1,)}, [3, 4, 5]), disk)
        self.assertEqual(disk.anchor, ("anchor", 1, ((5, 6),)))


class ArgumentsTest(unittest.TestCase):
    def test_the_dict_and_the_list_are_neither_modified_nor_kept(self):
        shape = make(2, 2)
        sealer, disk = blank(shape)
        for most in range(20):
            changed, free = {3: (3,), 0: (1,)}, [10, 11, 12, 13, 14, 15]
            twin_sealer, twin_disk = blank(shape)
            expected = run(CommitTalk(shape, twin_sealer, twin_disk.anchor, changed, free), twin_disk)
            sealer, disk = blank(shape)
            talk = CommitTalk(shape, sealer, disk.anchor, changed, free)
            requests = run(talk, disk, most)
            self.assertEqual([list(changed.items()), free], [[(3, (3,)), (0, (1,))], [10, 11, 12, 13, 14, 15]])
            changed[3] = (9,)
            changed[1] = (9,)
            free.clear()
            self.assertEqual(requests + run(talk, disk), expected)
            self.assertEqual([talk.request(), talk.taken()], [("done", ("committed", disk.anchor)), 5])
            self.assertEqual([changed, free], [{3: (9,), 0: (1,), 1: (9,)}, []])

    def test_the_dict_and_the_list_of_a_talk_that_has_ended_at_once(self):
        shape = make(2, 2)
        sealer, disk = blank(shape)
        for changed, free in (({}, [3, 4, 5]), ({2: (1,)}, [3, 4])):
            kept = (dict(changed), list(free))
            talk = CommitTalk(shape, sealer, disk.anchor, changed, free)
            request = talk.request()
            self.assertEqual((changed, free), kept)
            changed[0] = (7,)
            free.append(9)
            self.assertEqual(talk.request(), request)

    def test_the_blocks_written_are_a_list_of_their_own(self):
        shape = make(2, 2)
        sealer, disk = blank(shape)
        talk = CommitTalk(shape, sealer, disk.anchor, {1: (1,)}, [4, 6, 8, 9])
        self.assertEqual(talk.written(), [4, 6, 8])
        talk.written().clear()
        requests = run(talk, disk)
        self.assertEqual([request[1] for request in requests if request[0] == "write"], [4, 6, 8])
        self.assertEqual(talk.written(), [4, 6, 8])

    def test_what_was_committed_is_read(self):
        shape = make(3, 2, words=4)
        sealer, disk = blank(shape)
        talk = CommitTalk(shape, sealer, disk.anchor, {4: (1, 2, 3, 255)}, list(range(3, 30)))
        result_of(talk, disk)
        root = disk.anchor[2][0]
        self.assertEqual(entry_of(shape, disk, root, 2, 4), (3, 4))
        for index in range(9):
            expected = (1, 2, 3, 255) if index == 4 else (0, 0, 0, 0)
            self.assertEqual(result_of(ReadTalk(shape, sealer, root, index), disk), expected)


if __name__ == "__main__":
    unittest.main()
