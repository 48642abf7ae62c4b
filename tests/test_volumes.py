"""Promises 6.1 to 6.4: volumes, sweeps, snapshots, drops and mounting."""

import random
import unittest

from caisson.commits import CommitTalk
from caisson.errors import TalkError
from caisson.sealer import Sealer
from caisson.talks import Talk
from caisson.volumes import Volume, mount
from tests.disks import ALL_TREES, SMALL_TREES, Disk, blank, make, result_of, run, settle, used_by


def new_volume(shape):
    """Returns a blank volume, its sealer and its disk."""
    sealer, disk = blank(shape)
    return Volume(shape, sealer, disk.anchor, list(range(shape.depth + 1))), sealer, disk


def state(volume):
    return (volume.anchor, list(volume.used), dict(volume.changed), volume.free())


class FieldsTest(unittest.TestCase):
    def test_a_new_volume(self):
        shape = make(2, 2, blocks=6)
        sealer, disk = blank(shape)
        volume = Volume(shape, sealer, disk.anchor, [0, 1, 2])
        self.assertEqual([volume.anchor, volume.used, volume.changed], [disk.anchor, [0, 1, 2], {}])
        self.assertEqual([type(volume.used), type(volume.changed), type(volume.free())], [list, dict, list])

    def test_free_blocks(self):
        shape = make(2, 2, blocks=8)
        sealer, disk = blank(shape)
        for used, free in (
            ([], [0, 1, 2, 3, 4, 5, 6, 7]), ([0, 1, 2], [3, 4, 5, 6, 7]), ([7], [0, 1, 2, 3, 4, 5, 6]),
            ([1, 3, 5], [0, 2, 4, 6, 7]), (list(range(8)), []), ([2, 8, 900], [0, 1, 3, 4, 5, 6, 7]),
        ):
            self.assertEqual(Volume(shape, sealer, disk.anchor, used).free(), free)

    def test_the_list_given_is_neither_modified_nor_kept(self):
        shape = make(2, 1, blocks=6)
        sealer, disk = blank(shape)
        used = [0, 1]
        volume = Volume(shape, sealer, disk.anchor, used)
        used.append(2)
        self.assertEqual([volume.used, volume.free()], [[0, 1], [2, 3, 4, 5]])
        volume.write(0, [1])
        settle(volume, disk, volume.commit())
        settle(volume, disk, volume.sweep())
        self.assertEqual(used, [0, 1, 2])

    def test_free_is_a_list_of_its_own(self):
        volume, _, disk = new_volume(make(2, 1, blocks=6))
        volume.free().clear()
        self.assertEqual(volume.free(), [2, 3, 4, 5])
        free = volume.free()
        volume.write(0, [1])
        settle(volume, disk, volume.commit())
        self.assertEqual([free, volume.free()], [[2, 3, 4, 5], [4, 5]])

    def test_two_volumes_share_nothing(self):
        shape = make(2, 1, blocks=9)
        one, other = new_volume(shape), new_volume(shape)
        one[0].write(0, [1])
        settle(one[0], one[2], one[0].commit())
        one[0].write(1, [1])
        self.assertEqual(state(other[0]), (("anchor", 0, ((1, 2),)), [0, 1], {}, [2, 3, 4, 5, 6, 7, 8]))


class WriteAndReadTest(unittest.TestCase):
    def test_a_changed_leaf_is_read_as_it_is(self):
        volume, _, disk = new_volume(make(2, 2, words=2))
        self.assertIsNone(volume.write(2, [5, 255]))
        self.assertEqual(volume.changed, {2: (5, 255)})
        talk = volume.read(2)
        self.assertIsInstance(talk, Talk)
        self.assertIs(talk.has_ended(), True)
        self.assertEqual([talk.request(), talk.answers], [("done", (5, 255)), 0])
        with self.assertRaises(TalkError) as caught:
            talk.answer(None)
        self.assertEqual(caught.exception.answers, 0)
        for index in (0, 1, 3):
            talk = volume.read(index)
            self.assertEqual([talk.request(), talk.has_ended()], [("read", 2), False])
            self.assertEqual(result_of(talk, disk), (0, 0))

    def test_a_leaf_that_is_changed_twice(self):
        volume, sealer, disk = new_volume(make(2, 2))
        volume.write(1, [5])
        volume.write(3, [6])
        volume.write(1, [7])
        self.assertEqual(volume.changed, {1: (7,), 3: (6,)})
        self.assertEqual(volume.read(1).request(), ("done", (7,)))
        requests = run(volume.commit(), disk)
        self.assertEqual(requests[3:5], [("write", 3, ("leaf", 7)), ("write", 4, ("leaf", 6))])
        self.assertEqual(len([request for request in requests if request[0] == "write"]), 5)
        self.assertEqual(sealer.mark(("leaf", 5)), 9)

    def test_a_leaf_that_is_changed_back(self):
        volume, _, disk = new_volume(make(2, 1))
        volume.write(1, [5])
        volume.write(1, [0])
        self.assertEqual(volume.changed, {1: (0,)})
        self.assertEqual(settle(volume, disk, volume.commit()), ("done", ("committed", ("anchor", 1, ((3, 3),)))))

    def test_the_list_of_words_is_neither_modified_nor_kept(self):
        volume, _, disk = new_volume(make(2, 1, words=3))
        words = [1, 2, 3]
        volume.write(0, words)
        words[0] = 9
        words.append(4)
        self.assertEqual([volume.changed, volume.read(0).request()], [{0: (1, 2, 3)}, ("done", (1, 2, 3))])
        talk = volume.commit()
        words.clear()
        settle(volume, disk, talk)
        self.assertEqual(result_of(volume.read(0), disk), (1, 2, 3))
        self.assertEqual(words, [])

    def test_read_at_shows_no_changes(self):
        volume, _, disk = new_volume(make(2, 2, snapshots=2))
        volume.write(1, [5])
        self.assertEqual(result_of(volume.read_at(0, 1), disk), (0,))
        settle(volume, disk, volume.commit())
        volume.write(1, [6])
        self.assertEqual(volume.read(1).request(), ("done", (6,)))
        self.assertEqual(result_of(volume.read_at(0, 1), disk), (5,))

    def test_read_at_of_each_root(self):
        for fanout, depth in SMALL_TREES:
            volume, _, disk = new_volume(make(fanout, depth, snapshots=3))
            last = fanout**depth - 1
            for word in (1, 2, 3):
                settle(volume, disk, volume.snapshot())
                volume.write(last, [word])
                settle(volume, disk, volume.commit())
            self.assertEqual([result_of(volume.read_at(number, last), disk)[0] for number in range(4)], [3, 0, 1, 2])
            self.assertEqual([result_of(volume.read_at(number, 0), disk)[0] for number in range(4)], [0] * 4)
            for number, root in enumerate(volume.anchor[2]):
                self.assertEqual(volume.read_at(number, last).request(), ("read", root[0]))
            self.assertEqual(volume.read(last).request(), ("read", volume.anchor[2][0][0]))

    def test_reading_changes_nothing(self):
        volume, _, disk = new_volume(make(2, 2, blocks=20, snapshots=1))
        settle(volume, disk, volume.snapshot())
        volume.write(1, [5])
        before = state(volume)
        for talk in (volume.read(0), volume.read(1), volume.read_at(0, 1), volume.read_at(1, 3)):
            run(talk, disk)
            self.assertEqual(talk.request()[0], "done")
            volume.finish(talk)
            self.assertEqual(state(volume), before)
        for talk in (volume.read(0), volume.read_at(1, 1)):
            talk.answer(("leaf", 5))
            self.assertEqual(talk.request(), ("refused", 2))
            volume.finish(talk)
            self.assertEqual(state(volume), before)


class CommitTest(unittest.TestCase):
    def test_the_talk_is_that_of_the_document(self):
        shape = make(3, 2, blocks=30)
        volume, _, disk = new_volume(shape)
        twin_sealer, twin_disk = blank(shape)
        for index, word in ((4, 1), (8, 2), (3, 3)):
            volume.write(index, [word])
        talk = volume.commit()
        self.assertIsInstance(talk, CommitTalk)
        twin = CommitTalk(shape, twin_sealer, twin_disk.anchor, {4: (1,), 8: (2,), 3: (3,)}, list(range(3, 30)))
        self.assertEqual(run(talk, disk), run(twin, twin_disk))
        self.assertEqual([talk.request(), talk.taken()], [twin.request(), twin.taken()])

    def test_a_committed_commit(self):
        volume, _, disk = new_volume(make(2, 2, blocks=20))
        volume.write(3, [5])
        talk = volume.commit()
        run(talk, disk)
        self.assertEqual(state(volume), (("anchor", 0, ((2, 3),)), [0, 1, 2], {3: (5,)}, list(range(3, 20))))
        self.assertIsNone(volume.finish(talk))
        self.assertEqual(state(volume), (("anchor", 1, ((5, 6),)), [0, 1, 2, 3, 4, 5], {}, list(range(6, 20))))
        volume.write(0, [6])
        settle(volume, disk, volume.commit())
        self.assertEqual(volume.anchor, disk.anchor)
        self.assertEqual([volume.anchor[1], volume.used, volume.changed], [2, list(range(9)), {}])

    def test_the_blocks_in_use_stay_in_ascending_order(self):
        shape = make(2, 1, blocks=12)
        sealer = Sealer()
        sealer.mark(("leaf", 0))
        sealer.mark(("node", (7, 1), (7, 1)))
        disk = Disk({7: ("leaf", 0), 3: ("node", (7, 1), (7, 1))}, ("anchor", 5, ((3, 2),)))
        volume = Volume(shape, sealer, disk.anchor, [3, 7])
        for word, used in ((1, [0, 1, 3, 7]), (2, [0, 1, 2, 3, 4, 7]), (3, [0, 1, 2, 3, 4, 5, 6, 7])):
            volume.write(0, [word])
            settle(volume, disk, volume.commit())
            self.assertEqual(volume.used, used)

    def test_only_the_blocks_that_were_written_are_added(self):
        volume, _, disk = new_volume(make(2, 2, blocks=100))
        volume.write(0, [1])
        volume.write(3, [2])
        talk = volume.commit()
        settle(volume, disk, talk)
        self.assertEqual([volume.used, talk.taken()], [list(range(8)), 5])

    def test_a_commit_without_changes(self):
        volume, sealer, disk = new_volume(make(2, 2, blocks=20))
        for _ in range(2):
            talk = volume.commit()
            self.assertEqual([talk.request(), talk.taken()], [("done", ("committed", volume.anchor)), 0])
            before = state(volume)
            volume.finish(talk)
            self.assertEqual(state(volume), before)
            volume.write(1, [1])
            settle(volume, disk, volume.commit())
        self.assertEqual([volume.anchor[1], volume.used], [2, list(range(9))])

    def test_a_full_commit_changes_nothing(self):
        volume, sealer, disk = new_volume(make(2, 2, blocks=5))
        volume.write(3, [5])
        before = state(volume)
        talk = volume.commit()
        self.assertEqual([talk.request(), talk.has_ended()], [("done", ("full", 3)), True])
        volume.finish(talk)
        self.assertEqual(state(volume), before)
        self.assertEqual(sealer.mark(("next",)), 4)
        self.assertEqual(volume.read(3).request(), ("done", (5,)))

    def test_a_sweep_makes_room_for_a_full_commit(self):
        volume, _, disk = new_volume(make(2, 1, blocks=5))
        volume.write(0, [1])
        settle(volume, disk, volume.commit())
        volume.write(1, [2])
        self.assertEqual(settle(volume, disk, volume.commit()), ("done", ("full", 2)))
        self.assertEqual(settle(volume, disk, volume.sweep()), ("done", [0, 2, 3]))
        self.assertEqual(volume.free(), [1, 4])
        settle(volume, disk, volume.commit())
        self.assertEqual([volume.anchor, volume.used], [("anchor", 2, ((4, 6),)), [0, 1, 2, 3, 4]])
        self.assertEqual([result_of(volume.read(index), disk) for index in (0, 1)], [(1,), (2,)])

    def test_a_refused_commit_changes_nothing(self):
        volume, _, disk = new_volume(make(2, 2, blocks=20))
        volume.write(3, [5])
        before = state(volume)
        for asked in (0, 1):
            talk = volume.commit()
            run(talk, disk, asked)
            talk.answer(None)
            self.assertEqual(talk.request()[0], "refused")
            volume.finish(talk)
            self.assertEqual(state(volume), before)
        settle(volume, disk, volume.commit())
        self.assertEqual([volume.anchor, volume.changed], [("anchor", 1, ((5, 6),)), {}])

    def test_a_talk_keeps_what_it_was_made_with(self):
        volume, _, disk = new_volume(make(2, 2, blocks=20))
        volume.write(3, [5])
        talk = volume.commit()
        volume.changed[3] = (9,)
        volume.used.append(3)
        run(talk, disk)
        self.assertEqual(disk.blocks[3], ("leaf", 5))


class SweepTest(unittest.TestCase):
    def test_a_sweep_finds_the_blocks_in_use(self):
        volume, sealer, disk = new_volume(make(2, 2, blocks=20))
        for word in (1, 2, 3):
            volume.write(0, [word])
            settle(volume, disk, volume.commit())
        self.assertEqual(volume.used, list(range(12)))
        talk = volume.sweep()
        run(talk, disk)
        self.assertEqual(talk.request(), ("done", [0, 1, 9, 10, 11]))
        self.assertEqual(volume.used, list(range(12)))
        self.assertIsNone(volume.finish(talk))
        self.assertEqual(volume.used, [0, 1, 9, 10, 11])
        self.assertEqual(volume.free(), list(range(2, 9)) + list(range(12, 20)))
        self.assertEqual(volume.used, used_by(make(2, 2), sealer, disk, disk.anchor))

    def test_a_sweep_keeps_snapshots_changes_and_the_anchor(self):
        volume, sealer, disk = new_volume(make(2, 2, blocks=20, snapshots=1))
        settle(volume, disk, volume.snapshot())
        for word in (1, 2):
            volume.write(0, [word])
            settle(volume, disk, volume.commit())
        volume.write(3, [9])
        anchor = volume.anchor
        self.assertEqual(settle(volume, disk, volume.sweep()), ("done", [0, 1, 2, 6, 7, 8]))
        self.assertEqual([volume.anchor, volume.used, volume.changed], [anchor, [0, 1, 2, 6, 7, 8], {3: (9,)}])
        self.assertEqual(result_of(volume.read_at(1, 0), disk), (0,))

    def test_the_result_of_a_sweep_is_not_shared(self):
        volume, _, disk = new_volume(make(2, 2, blocks=20))
        talk = volume.sweep()
        run(talk, disk)
        result = talk.request()[1]
        volume.finish(talk)
        result.append(19)
        talk.request()[1].append(18)
        self.assertEqual(volume.used, [0, 1, 2])
        volume.used.append(5)
        self.assertEqual(talk.request(), ("done", [0, 1, 2]))

    def test_a_refused_sweep_changes_nothing(self):
        volume, _, disk = new_volume(make(2, 2, blocks=20))
        volume.write(0, [1])
        settle(volume, disk, volume.commit())
        before = state(volume)
        for asked in range(5):
            talk = volume.sweep()
            run(talk, disk, asked)
            talk.answer(("leaf", 3))
            self.assertEqual(talk.request()[0], "refused")
            volume.finish(talk)
            self.assertEqual(state(volume), before)

    def test_a_talk_that_has_not_ended_changes_nothing(self):
        volume, _, disk = new_volume(make(2, 1, blocks=20, snapshots=2))
        volume.write(0, [1])
        settle(volume, disk, volume.snapshot())
        before = state(volume)
        for make_talk in (volume.sweep, volume.commit, volume.snapshot, lambda: volume.drop(1), lambda: volume.read(1)):
            for asked in range(5):
                talk = make_talk()
                run(talk, disk.copy(), asked)
                if not talk.has_ended():
                    volume.finish(talk)
                self.assertEqual(state(volume), before)


class SnapshotTest(unittest.TestCase):
    def test_a_snapshot(self):
        volume, _, disk = new_volume(make(2, 2, blocks=20, snapshots=2))
        talk = volume.snapshot()
        self.assertIsInstance(talk, Talk)
        anchor = ("anchor", 1, ((2, 3), (2, 3)))
        self.assertEqual([talk.request(), talk.has_ended()], [("anchor", anchor), False])
        self.assertEqual(volume.anchor, ("anchor", 0, ((2, 3),)))
        talk.answer("any")
        self.assertEqual([talk.request(), talk.answers], [("done", ("committed", anchor)), 1])
        self.assertEqual(volume.anchor, ("anchor", 0, ((2, 3),)))
        self.assertIsNone(volume.finish(talk))
        self.assertEqual(state(volume), (anchor, [0, 1, 2], {}, list(range(3, 20))))

    def test_snapshots_stand_in_the_order_in_which_they_were_taken(self):
        volume, _, disk = new_volume(make(2, 2, snapshots=3))
        roots = []
        for word in (1, 2, 3):
            volume.write(0, [word])
            settle(volume, disk, volume.commit())
            roots.append(volume.anchor[2][0])
            settle(volume, disk, volume.snapshot())
        self.assertEqual(volume.anchor, ("anchor", 6, (roots[2], *roots)))
        volume.write(0, [4])
        settle(volume, disk, volume.commit())
        self.assertEqual([volume.anchor[1], volume.anchor[2][1:]], [7, tuple(roots)])
        self.assertEqual(volume.anchor, disk.anchor)

    def test_the_most_that_are_kept(self):
        for most in (0, 1, 2, 3):
            volume, _, disk = new_volume(make(2, 1, snapshots=most))
            volume.write(0, [5])
            for taken in range(most):
                self.assertEqual(len(volume.anchor[2]), taken + 1)
                kind, result = settle(volume, disk, volume.snapshot())
                self.assertEqual([kind, result[0], result[1][1]], ["done", "committed", taken + 1])
            before = state(volume)
            for _ in range(2):
                talk = volume.snapshot()
                self.assertEqual([talk.request(), talk.answers], [("done", ("full", most)), 0])
                self.assertIs(talk.has_ended(), True)
                with self.assertRaises(TalkError):
                    talk.answer(None)
                volume.finish(talk)
                self.assertEqual(state(volume), before)

    def test_more_snapshots_than_are_kept(self):
        shape = make(2, 1, snapshots=1)
        sealer, disk = blank(shape)
        volume = Volume(shape, sealer, ("anchor", 9, ((1, 2),) * 4), [0, 1])
        self.assertEqual(volume.snapshot().request(), ("done", ("full", 3)))

    def test_changes_are_neither_included_nor_forgotten(self):
        volume, _, disk = new_volume(make(2, 2, blocks=30, snapshots=2))
        volume.write(1, [5])
        settle(volume, disk, volume.snapshot())
        self.assertEqual([volume.changed, volume.read(1).request()], [{1: (5,)}, ("done", (5,))])
        self.assertEqual([result_of(volume.read_at(number, 1), disk) for number in (0, 1)], [(0,), (0,)])
        settle(volume, disk, volume.commit())
        self.assertEqual([result_of(volume.read_at(number, 1), disk) for number in (0, 1)], [(5,), (0,)])
        volume.write(2, [6])
        settle(volume, disk, volume.drop(1))
        self.assertEqual([volume.changed, volume.used], [{2: (6,)}, list(range(6))])


class DropTest(unittest.TestCase):
    def with_snapshots(self, many):
        volume, sealer, disk = new_volume(make(2, 2, blocks=100, snapshots=3))
        for word in range(1, many + 1):
            volume.write(0, [word])
            settle(volume, disk, volume.commit())
            settle(volume, disk, volume.snapshot())
        volume.write(0, [9])
        settle(volume, disk, volume.commit())
        return volume, sealer, disk

    def test_drops_of_each_number(self):
        for many in (1, 2, 3):
            for number in range(1, many + 1):
                volume, _, disk = self.with_snapshots(many)
                epoch, roots, used = volume.anchor[1], volume.anchor[2], list(volume.used)
                anchor = ("anchor", epoch + 1, tuple(root for at, root in enumerate(roots) if at != number))
                talk = volume.drop(number)
                self.assertIsInstance(talk, Talk)
                self.assertEqual([talk.request(), talk.has_ended()], [("anchor", anchor), False])
                talk.answer(None)
                self.assertEqual([talk.request(), talk.answers], [("done", ("committed", anchor)), 1])
                self.assertEqual(volume.anchor[1], epoch)
                volume.finish(talk)
                self.assertEqual([volume.anchor, volume.used, volume.changed], [anchor, used, {}])
                words = [result_of(volume.read_at(at, 0), disk)[0] for at in range(many)]
                self.assertEqual(words, [9] + [word for word in range(1, many + 1) if word != number])

    def test_the_blocks_of_a_dropped_snapshot_are_found_by_a_sweep(self):
        volume, sealer, disk = self.with_snapshots(3)
        shape = make(2, 2)
        settle(volume, disk, volume.sweep())
        many = len(volume.used)
        for left in (2, 1, 0):
            settle(volume, disk, volume.drop(1))
            self.assertEqual(len(volume.used), many)
            settle(volume, disk, volume.sweep())
            self.assertEqual(volume.used, used_by(shape, sealer, disk, disk.anchor))
            self.assertEqual(len(volume.anchor[2]), left + 1)
            self.assertLess(len(volume.used), many)
            many = len(volume.used)

    def test_a_drop_makes_room_for_a_snapshot(self):
        volume, _, disk = self.with_snapshots(3)
        roots = volume.anchor[2]
        self.assertEqual(settle(volume, disk, volume.snapshot()), ("done", ("full", 3)))
        settle(volume, disk, volume.drop(2))
        settle(volume, disk, volume.snapshot())
        self.assertEqual(volume.anchor, ("anchor", 9, (roots[0], roots[1], roots[3], roots[0])))
        self.assertEqual(volume.anchor, disk.anchor)


class EpochTest(unittest.TestCase):
    def test_the_epoch_rises_by_one_whenever_the_anchor_is_replaced(self):
        chance = random.Random(3)
        volume, _, disk = new_volume(make(2, 3, snapshots=3))
        epoch, seen = 0, set()
        for step in range(300):
            self.assertEqual([volume.anchor, volume.anchor[1]], [disk.anchor, epoch])
            kind = chance.choice(["write", "commit", "sweep", "snapshot", "drop", "read"])
            kept = len(volume.anchor[2]) - 1
            if kind == "write":
                volume.write(chance.randrange(8), [step % 256])
                continue
            if kind == "drop":
                if not kept:
                    continue
                talk = volume.drop(chance.randint(1, kept))
            elif kind == "read":
                talk = volume.read(chance.randrange(8))
            else:
                talk = {"commit": volume.commit, "sweep": volume.sweep, "snapshot": volume.snapshot}[kind]()
            requests = run(talk, disk)
            volume.finish(talk)
            epoch += len([request for request in requests if request[0] == "anchor"])
            seen.add((kind, bool(requests)))
        self.assertGreater(epoch, 50)
        self.assertTrue({("commit", True), ("commit", False), ("snapshot", True), ("drop", True)} <= seen)


class MountTest(unittest.TestCase):
    def test_a_blank_volume(self):
        for fanout, depth in ALL_TREES:
            shape = make(fanout, depth)
            sealer, disk = blank(shape)
            talk = mount(shape, sealer, disk.anchor)
            self.assertIsInstance(talk, Talk)
            self.assertEqual(run(talk, disk), [("read", block) for block in range(depth, -1, -1)])
            self.assertEqual(talk.request(), ("done", list(range(depth + 1))))

    def test_a_changed_volume_with_snapshots(self):
        for fanout, depth in SMALL_TREES:
            shape = make(fanout, depth, blocks=300, snapshots=3)
            volume, sealer, disk = new_volume(shape)
            for word in (1, 2, 3, 4):
                volume.write(word % shape.leaves(), [word])
                volume.write(0, [word])
                settle(volume, disk, volume.commit())
                settle(volume, disk, volume.snapshot())
            result = result_of(mount(shape, sealer, disk.anchor), disk)
            self.assertEqual(result, used_by(shape, sealer, disk, disk.anchor))
            self.assertEqual(result, settle(volume, disk, volume.sweep())[1])
            again = Volume(shape, sealer, disk.anchor, result)
            self.assertEqual(state(again), state(volume))
            for index in range(shape.leaves()):
                for number in range(4):
                    talks = [again.read_at(number, index), volume.read_at(number, index)]
                    self.assertEqual(result_of(talks[0], disk), result_of(talks[1], disk))

    def test_changes_that_are_not_committed_are_gone(self):
        shape = make(2, 1, blocks=9)
        volume, sealer, disk = new_volume(shape)
        volume.write(0, [1])
        settle(volume, disk, volume.commit())
        volume.write(0, [2])
        again = Volume(shape, sealer, disk.anchor, result_of(mount(shape, sealer, disk.anchor), disk))
        self.assertEqual(state(again), (("anchor", 1, ((3, 4),)), [0, 2, 3], {}, [1, 4, 5, 6, 7, 8]))
        self.assertEqual(result_of(again.read(0), disk), (1,))

    def test_a_disk_that_lies_is_refused(self):
        shape = make(2, 1, blocks=9)
        sealer, disk = blank(shape)
        talk = mount(shape, sealer, disk.anchor)
        talk.answer(disk.blocks[1])
        talk.answer(("leaf", 1))
        self.assertEqual(talk.request(), ("refused", 0))


if __name__ == "__main__":
    unittest.main()
