"""Promises 4.1 to 4.3: talks, reads and scans."""

import random
import unittest

from caisson.commits import CommitTalk
from caisson.errors import CaissonError, TalkError
from caisson.sealer import Sealer
from caisson.talks import ChangeTalk, ReadTalk, ScanTalk, Talk
from caisson.volumes import Volume
from tests.disks import (
    ALL_TREES, ANSWERS, SMALL_TREES, Disk, blank, make, nested, result_of, run, settle, spoiled, tree_of,
)

REQUESTS = [
    ("read", 7), ("write", 3, ("leaf", 1)), ("flush",), ("anchor", ("anchor", 4, ((1, 2), (3, 4)))),
]
ENDS = [("done", (1, 2)), ("done", None), ("done", ()), ("done", "done"), ("refused", 0), ("refused", 7)]


def committed(shape, many, seed=1):
    """Returns a sealer, a disk, an anchor, and the words of all leaves, after some commits."""
    chance = random.Random(seed)
    sealer, disk = blank(shape)
    volume = Volume(shape, sealer, disk.anchor, list(range(shape.depth + 1)))
    words = [(0,) * shape.words] * shape.leaves()
    for _ in range(many):
        for index in chance.sample(range(shape.leaves()), chance.randint(1, shape.leaves())):
            words[index] = tuple([chance.randint(0, 255) for _ in range(shape.words)])
            volume.write(index, list(words[index]))
        settle(volume, disk, volume.sweep())
        settle(volume, disk, volume.commit())
    assert volume.anchor == disk.anchor
    assert volume.anchor[1] == many
    return sealer, disk, words


def way_to(shape, disk, root, index):
    """Returns the entries and the cells from a root to a leaf."""
    entries, cells = [root], [disk.blocks[root[0]]]
    for level in range(1, shape.depth + 1):
        child = index // shape.fanout ** (shape.depth - level) % shape.fanout
        entries.append(cells[-1][1 + child])
        cells.append(disk.blocks[entries[-1][0]])
    return entries, cells


class TalkTest(unittest.TestCase):
    def check_ended(self, talk, request, answers):
        for value in ANSWERS:
            with self.assertRaises(TalkError) as caught:
                talk.answer(value)
            self.assertEqual(caught.exception.answers, answers)
            self.assertIsInstance(caught.exception, CaissonError)
            self.assertEqual(talk.answers, answers)
            self.assertIs(talk.has_ended(), True)
            self.assertEqual(talk.request(), request)

    def test_each_request_is_ended_by_each_answer(self):
        for request in REQUESTS:
            for value in ANSWERS:
                talk = Talk(request)
                self.assertEqual([talk.request(), talk.answers], [request, 0])
                self.assertIs(talk.has_ended(), False)
                self.assertEqual(talk.request(), request)
                self.assertIsNone(talk.answer(value))
                self.assertIs(talk.has_ended(), True)
                self.assertEqual(talk.answers, 1)
                kind, result = talk.request()
                self.assertEqual(kind, "done")
                self.assertIs(result, value)

    def test_a_talk_that_has_ended_at_once(self):
        for request in ENDS:
            talk = Talk(request)
            self.assertEqual([talk.request(), talk.answers], [request, 0])
            self.assertIs(talk.has_ended(), True)
            self.check_ended(talk, request, 0)

    def test_an_answer_behind_the_end(self):
        for request in REQUESTS:
            talk = Talk(request)
            talk.answer(("leaf", 9))
            self.check_ended(talk, ("done", ("leaf", 9)), 1)

    def test_an_answer_that_looks_like_the_end_of_a_talk(self):
        for value in (("done", 1), ("refused", 1), ("read", 1)):
            talk = Talk(("read", 1))
            talk.answer(value)
            self.assertEqual(talk.request(), ("done", value))
            self.check_ended(talk, ("done", value), 1)

    def test_a_list_as_a_result_is_not_shared(self):
        blocks = [1, 2]
        talk = Talk(("done", blocks))
        blocks.append(3)
        self.assertEqual(talk.request(), ("done", [1, 2]))
        talk.request()[1].append(4)
        self.assertEqual(talk.request(), ("done", [1, 2]))
        self.assertEqual(blocks, [1, 2, 3])

    def test_two_talks_side_by_side(self):
        one, other = Talk(("read", 1)), Talk(("read", 1))
        one.answer(5)
        self.assertEqual([one.answers, other.answers], [1, 0])
        self.assertEqual(other.request(), ("read", 1))


class ChangeTalkTest(unittest.TestCase):
    def test_a_single_request(self):
        for request in REQUESTS:
            for value in ANSWERS:
                talk = ChangeTalk([request], ("full", 3))
                self.assertIsInstance(talk, Talk)
                self.assertEqual([talk.request(), talk.answers, talk.has_ended()], [request, 0, False])
                self.assertIsNone(talk.answer(value))
                self.assertEqual([talk.request(), talk.answers], [("done", ("full", 3)), 1])
                self.assertIs(talk.has_ended(), True)

    def test_several_requests_and_answers_that_are_ignored(self):
        for many in range(1, 9):
            requests = [("write", block, ("leaf", block)) for block in range(many)] + REQUESTS
            talk = ChangeTalk(requests, ("committed", 5))
            for at, request in enumerate(requests):
                self.assertEqual([talk.request(), talk.answers, talk.has_ended()], [request, at, False])
                talk.answer(ANSWERS[at % len(ANSWERS)])
            self.assertEqual(talk.request(), ("done", ("committed", 5)))
            with self.assertRaises(TalkError) as caught:
                talk.answer(None)
            self.assertEqual([caught.exception.answers, talk.answers], [len(requests)] * 2)
            self.assertEqual(talk.request(), ("done", ("committed", 5)))

    def test_requests_that_are_alike_are_all_stated(self):
        talk = ChangeTalk([("flush",)] * 3, None)
        self.assertEqual(run(talk, Disk([], None)), [("flush",)] * 3)
        self.assertEqual(talk.request(), ("done", None))

    def test_the_list_given_is_neither_modified_nor_shared(self):
        requests = list(REQUESTS)
        talk = ChangeTalk(requests, (1,))
        self.assertEqual(requests, REQUESTS)
        talk.answer(None)
        self.assertEqual(requests, REQUESTS)
        requests[1] = ("flush",)
        requests.clear()
        self.assertEqual(talk.request(), REQUESTS[1])
        for request in REQUESTS[1:]:
            self.assertEqual(talk.request(), request)
            talk.answer(None)
        self.assertEqual(talk.request(), ("done", (1,)))
        self.assertEqual(requests, [])

    def test_a_list_as_a_result_is_not_shared(self):
        result = [1, 2]
        talk = ChangeTalk([("flush",)], result)
        result.append(3)
        talk.answer(None)
        talk.request()[1].append(4)
        self.assertEqual(talk.request(), ("done", [1, 2]))


class ReadTalkTest(unittest.TestCase):
    def check_refused(self, talk, block, cells):
        answers = len(cells) + 1
        self.assertEqual([talk.request(), talk.answers], [("refused", block), answers])
        self.assertIs(talk.has_ended(), True)
        self.assertEqual(talk.cells, cells)
        with self.assertRaises(TalkError) as caught:
            talk.answer(("leaf", 0))
        self.assertEqual([caught.exception.answers, talk.answers], [answers, answers])
        self.assertEqual([talk.request(), talk.cells], [("refused", block), cells])

    def test_every_leaf_of_a_blank_volume(self):
        for fanout, depth in ALL_TREES:
            shape = make(fanout, depth, words=1 + depth % 4)
            sealer, disk = blank(shape)
            for index in range(shape.leaves()):
                talk = ReadTalk(shape, sealer, disk.anchor[2][0], index)
                self.assertEqual(run(talk, disk), [("read", block) for block in range(depth, -1, -1)])
                self.assertEqual(talk.request(), ("done", (0,) * shape.words))
                self.assertEqual(talk.answers, depth + 1)

    def test_every_leaf_after_commits(self):
        for fanout, depth in ALL_TREES:
            for many in (1, 3):
                shape = make(fanout, depth, words=1 + depth % 4)
                sealer, disk, words = committed(shape, many)
                root = disk.anchor[2][0]
                self.assertEqual(tree_of(shape, sealer, disk, root)[0], words)
                for index in range(shape.leaves()):
                    entries, cells = way_to(shape, disk, root, index)
                    talk = ReadTalk(shape, sealer, root, index)
                    self.assertIsInstance(talk, Talk)
                    self.assertEqual([talk.answers, talk.cells], [0, []])
                    for at in range(depth + 1):
                        self.assertEqual(talk.request(), ("read", entries[at][0]))
                        self.assertIs(talk.has_ended(), False)
                        talk.answer(cells[at])
                        self.assertEqual([talk.answers, talk.cells], [at + 1, cells[:at + 1]])
                    self.assertEqual(talk.request(), ("done", words[index]))
                    self.assertIs(type(talk.request()[1]), tuple)
                    with self.assertRaises(TalkError) as caught:
                        talk.answer(cells[-1])
                    self.assertEqual(caught.exception.answers, depth + 1)
                    self.assertEqual([talk.request(), talk.cells], [("done", words[index]), cells])

    def test_any_answer_at_each_place_of_the_way(self):
        for fanout, depth in SMALL_TREES + [(2, 6), (4, 3)]:
            shape = make(fanout, depth, words=2)
            sealer, disk, _ = committed(shape, 2)
            root = disk.anchor[2][0]
            index = shape.leaves() * 2 // 3
            entries, cells = way_to(shape, disk, root, index)
            for at in range(depth + 1):
                for lie in ANSWERS + spoiled(cells[at]) + [entries[at], entries[at][1], root, disk.anchor]:
                    talk = ReadTalk(shape, sealer, root, index)
                    for cell in cells[:at]:
                        talk.answer(cell)
                    talk.answer(lie)
                    self.check_refused(talk, entries[at][0], cells[:at])

    def test_the_cell_of_another_block_at_each_place(self):
        shape = make(2, 3)
        sealer, disk, _ = committed(shape, 4)
        root = disk.anchor[2][0]
        for index in range(shape.leaves()):
            entries, cells = way_to(shape, disk, root, index)
            for at in range(shape.depth + 1):
                others = [cell for cell in disk.blocks.values() if cell != cells[at]]
                self.assertGreater(len(others), 10)
                for other in others:
                    talk = ReadTalk(shape, sealer, root, index)
                    for cell in cells[:at]:
                        talk.answer(cell)
                    talk.answer(other)
                    self.check_refused(talk, entries[at][0], cells[:at])

    def test_older_cells_of_the_same_place(self):
        shape = make(2, 2, blocks=8)
        sealer, disk = blank(shape)
        volume = Volume(shape, sealer, disk.anchor, [0, 1, 2])
        past = []
        for word in range(1, 8):
            past.append(dict(disk.blocks))
            volume.write(1, [word])
            settle(volume, disk, volume.sweep())
            settle(volume, disk, volume.commit())
            entries, cells = way_to(shape, disk, volume.anchor[2][0], 1)
            for at in range(3):
                for blocks in past:
                    older = blocks.get(entries[at][0])
                    self.assertNotEqual(older, cells[at])
                    talk = volume.read(1)
                    for cell in cells[:at]:
                        talk.answer(cell)
                    talk.answer(older)
                    self.check_refused(talk, entries[at][0], cells[:at])
            self.assertEqual(result_of(volume.read(1), disk), (word,))

    def test_a_whole_way_of_an_older_tree(self):
        shape = make(3, 2)
        sealer, disk, _ = committed(shape, 3)
        root = disk.anchor[2][0]
        old_sealer, old_disk, _ = committed(shape, 2)
        self.assertEqual(old_sealer.mark(("next",)) < sealer.mark(("next",)), True)
        _, old = way_to(shape, old_disk, old_disk.anchor[2][0], 4)
        talk = ReadTalk(shape, sealer, root, 4)
        talk.answer(old[0])
        self.check_refused(talk, root[0], [])

    def test_the_words_of_another_leaf(self):
        shape = make(2, 1, words=1)
        sealer, disk = blank(shape)
        volume = Volume(shape, sealer, disk.anchor, [0, 1])
        volume.write(0, [5])
        volume.write(1, [6])
        run(volume.commit(), disk)
        _, _, (root,) = disk.anchor
        talk = ReadTalk(shape, sealer, root, 0)
        talk.answer(disk.blocks[root[0]])
        block = talk.request()[1]
        talk.answer(("leaf", 6))
        self.check_refused(talk, block, [disk.blocks[root[0]]])

    def test_a_disk_that_lies_once_and_then_tells_the_truth(self):
        shape = make(2, 2)
        sealer, disk, words = committed(shape, 2)
        root = disk.anchor[2][0]
        liar = ReadTalk(shape, sealer, root, 2)
        liar.answer(None)
        self.assertEqual(liar.request(), ("refused", root[0]))
        self.assertEqual(result_of(ReadTalk(shape, sealer, root, 2), disk), words[2])

    def test_a_read_gives_no_mark(self):
        shape = make(2, 2)
        sealer, disk, _ = committed(shape, 1)
        root = disk.anchor[2][0]
        talk = ReadTalk(shape, sealer, root, 2)
        talk.answer(("new",))
        twin, _, _ = committed(shape, 1)
        self.assertEqual(sealer.mark(("next",)), twin.mark(("next",)))

    def test_the_cells_may_be_changed_without_harm_to_the_talk(self):
        shape = make(2, 2)
        sealer, disk, words = committed(shape, 1)
        talk = ReadTalk(shape, sealer, disk.anchor[2][0], 3)
        while not talk.has_ended():
            talk.answer(disk.perform(talk.request()))
            talk.cells.clear()
        self.assertEqual(talk.request(), ("done", words[3]))


def scan_model(shape, disk, roots):
    """Returns the blocks that a scan reads in order, level by level, and its result."""
    reads, noted, level = [], set(), list(roots)
    for depth in range(shape.depth + 1):
        below = []
        for entry in level:
            if entry not in noted:
                noted.add(entry)
                reads.append(("read", entry[0]))
                if depth < shape.depth:
                    below.extend(disk.blocks[entry[0]][1:])
        level = below
    return reads, sorted({block for block, _ in noted})


class ScanTalkTest(unittest.TestCase):
    def test_a_blank_volume(self):
        for fanout, depth in ALL_TREES:
            shape = make(fanout, depth)
            sealer, disk = blank(shape)
            for copies in (1, 2, 4):
                talk = ScanTalk(shape, sealer, disk.anchor[2] * copies)
                self.assertIsInstance(talk, Talk)
                self.assertEqual(talk.answers, 0)
                self.assertEqual(run(talk, disk), [("read", block) for block in range(depth, -1, -1)])
                self.assertEqual(talk.request(), ("done", list(range(depth + 1))))
                self.assertEqual(talk.answers, depth + 1)

    def test_the_order_of_two_roots_that_share_cells(self):
        sealer = Sealer()
        texts = [
            ("leaf", 1), ("leaf", 2), ("leaf", 3),
            ("node", (4, 1), (8, 2)), ("node", (8, 2), (6, 3)), ("node", (8, 2), (4, 1)),
            ("node", (5, 4), (9, 5)), ("node", (9, 5), (2, 6)),
        ]
        for text in texts:
            sealer.mark(text)
        blocks = dict(zip([4, 8, 6, 5, 9, 2, 7, 3], texts))
        disk = Disk(blocks, None)
        shape = make(2, 2, blocks=10)
        talk = ScanTalk(shape, sealer, ((7, 7), (3, 8)))
        self.assertEqual([block for _, block in run(talk, disk)], [7, 3, 5, 9, 2, 4, 8, 6])
        self.assertEqual(talk.request(), ("done", [2, 3, 4, 5, 6, 7, 8, 9]))
        talk = ScanTalk(shape, sealer, ((3, 8), (7, 7), (3, 8)))
        self.assertEqual([block for _, block in run(talk, disk)], [3, 7, 9, 2, 5, 8, 6, 4])
        self.assertEqual(talk.request(), ("done", [2, 3, 4, 5, 6, 7, 8, 9]))
        talk = ScanTalk(shape, sealer, ((3, 8),))
        self.assertEqual([block for _, block in run(talk, disk)], [3, 9, 2, 8, 6, 4])
        self.assertEqual(talk.request(), ("done", [2, 3, 4, 6, 8, 9]))

    def test_alike_cells_in_two_blocks_are_two_entries(self):
        sealer = Sealer()
        sealer.mark(("leaf", 1))
        sealer.mark(("node", (2, 1), (5, 1), (2, 1)))
        disk = Disk({2: ("leaf", 1), 5: ("leaf", 1), 4: ("node", (2, 1), (5, 1), (2, 1))}, None)
        talk = ScanTalk(make(3, 1), sealer, ((4, 2),))
        self.assertEqual(run(talk, disk), [("read", 4), ("read", 2), ("read", 5)])
        self.assertEqual(talk.request(), ("done", [2, 4, 5]))

    def test_two_entries_of_one_block_give_its_number_once(self):
        # Only a disk that changes its answers can show two cells in one block.
        sealer = Sealer()
        for text in (("leaf", 1), ("leaf", 2), ("node", (2, 1), (2, 2))):
            sealer.mark(text)
        talk = ScanTalk(make(2, 1), sealer, ((3, 3),))
        for block, text in ((3, ("node", (2, 1), (2, 2))), (2, ("leaf", 1)), (2, ("leaf", 2))):
            self.assertEqual(talk.request(), ("read", block))
            talk.answer(text)
        self.assertEqual(talk.request(), ("done", [2, 3]))

    def test_volumes_of_each_shape_with_snapshots(self):
        for fanout, depth in ALL_TREES:
            shape = make(fanout, depth, blocks=600, snapshots=3)
            sealer, disk = blank(shape)
            volume = Volume(shape, sealer, disk.anchor, list(range(depth + 1)))
            chance = random.Random(depth)
            for _ in range(4):
                for index in chance.sample(range(shape.leaves()), chance.randint(1, 3)):
                    volume.write(index, [chance.randint(0, 3)])
                settle(volume, disk, volume.sweep())
                settle(volume, disk, volume.commit())
                settle(volume, disk, volume.snapshot())
                roots = volume.anchor[2]
                for part in (roots, roots[:1], roots[1:], roots[::-1], roots + roots):
                    reads, result = scan_model(shape, disk, part)
                    talk = ScanTalk(shape, sealer, part)
                    self.assertEqual(run(talk, disk), reads)
                    self.assertEqual([talk.request(), talk.answers], [("done", result), len(reads)])
                    blocks = [tree_of(shape, sealer, disk, root)[1] for root in part]
                    self.assertEqual(result, sorted(set().union(*blocks)))

    def test_any_answer_at_each_place_is_refused(self):
        for fanout, depth in SMALL_TREES:
            shape = make(fanout, depth, snapshots=1)
            sealer, disk, _ = committed(shape, 2)
            first = disk.anchor[2]
            volume = Volume(shape, sealer, disk.anchor, used=list(range(900)))
            volume.write(0, [77])
            run(volume.commit(), disk)
            roots = disk.anchor[2] + first
            reads, _ = scan_model(shape, disk, roots)
            for at, (_, block) in enumerate(reads):
                lies = [lie for lie in ANSWERS if lie != disk.blocks[block]]
                for lie in lies + spoiled(disk.blocks[block]):
                    talk = ScanTalk(shape, sealer, roots)
                    run(talk, disk, at)
                    talk.answer(lie)
                    self.assertEqual([talk.request(), talk.answers], [("refused", block), at + 1])
                    self.assertIs(talk.has_ended(), True)
                    with self.assertRaises(TalkError) as caught:
                        talk.answer(disk.blocks[block])
                    self.assertEqual(caught.exception.answers, at + 1)
                    self.assertEqual(talk.request(), ("refused", block))

    def test_the_result_is_not_shared(self):
        shape = make(2, 2)
        sealer, disk = blank(shape)
        talk = ScanTalk(shape, sealer, disk.anchor[2])
        run(talk, disk)
        result = talk.request()[1]
        self.assertIs(type(result), list)
        result.clear()
        self.assertEqual(talk.request(), ("done", [0, 1, 2]))

    def test_a_scan_gives_no_mark(self):
        shape = make(2, 2)
        sealer, disk = blank(shape)
        run(ScanTalk(shape, sealer, disk.anchor[2]), disk)
        talk = ScanTalk(shape, sealer, disk.anchor[2])
        talk.answer(("new",))
        self.assertEqual(sealer.mark(("next",)), 4)


class KindsTest(unittest.TestCase):
    def test_all_talks_are_talks_and_know_how_many_answers_they_took(self):
        shape = make(2, 1)
        sealer, disk = blank(shape)
        root = disk.anchor[2][0]
        talks = [
            (ReadTalk(shape, sealer, root, 0), 2), (ScanTalk(shape, sealer, (root,)), 2),
            (ChangeTalk([("flush",)], 1), 1), (CommitTalk(shape, sealer, disk.anchor, {0: (1,)}, [2, 3]), 5),
            (CommitTalk(shape, sealer, disk.anchor, {}, []), 0),
        ]
        for talk, answers in talks:
            self.assertIsInstance(talk, Talk)
            self.assertEqual(talk.answers, 0)
            run(talk, disk)
            self.assertEqual(talk.answers, answers)
            with self.assertRaises(TalkError) as caught:
                talk.answer(nested(100000, 1))
            self.assertEqual([caught.exception.answers, talk.answers], [answers, answers])


if __name__ == "__main__":
    unittest.main()
