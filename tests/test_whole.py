"""Promises 0.1, 0.2, 0.5 to 0.8 and 1.4: what holds whatever the disk answers and whenever the power fails."""

import itertools
import random
import unittest

from caisson.papers import check_paper, paper_of
from caisson.talks import ReadTalk
from caisson.volumes import Volume, mount
from tests.disks import (
    ANSWERS, SMALL_TREES, blank, make, result_of, run, settle, spoiled, tree_of, used_by,
)


def ample_shape(fanout, depth, snapshots, less=0):
    blocks = make(fanout, depth, snapshots=snapshots).ample() - less
    return make(fanout, depth, blocks=blocks, snapshots=snapshots)


class World:
    """A volume with its disk, and a plain model of the words of each of its trees."""

    def __init__(self, shape):
        self.shape = shape
        self.sealer, self.disk = blank(shape)
        self.volume = Volume(shape, self.sealer, self.disk.anchor, list(range(shape.depth + 1)))
        self.trees = [[(0,) * shape.words] * shape.leaves()]

    def settle(self, talk):
        return settle(self.volume, self.disk, talk)

    def commit(self, changed):
        for index, word in changed.items():
            self.volume.write(index, [word] * self.shape.words)
            self.trees[0] = list(self.trees[0])
            self.trees[0][index] = (word,) * self.shape.words
        self.settle(self.volume.sweep())
        return self.settle(self.volume.commit())

    def snapshot(self):
        self.trees.append(self.trees[0])
        return self.settle(self.volume.snapshot())


def lived_in(shape, seed=0):
    """Returns a world in which blocks have been freed and used again, and two snapshots kept."""
    chance = random.Random(seed)
    world = World(shape)
    for word in range(1, 9):
        leaves = chance.sample(range(shape.leaves()), chance.randint(1, shape.leaves()))
        world.commit({index: word for index in leaves})
        if word in (3, 6):
            world.snapshot()
    return world


class PowerFailureTest(unittest.TestCase):
    def check_mounted(self, world, disk, trees):
        """Mounts a disk, and checks that its anchor leads to exactly these trees, which can be changed further."""
        shape, sealer = world.shape, world.sealer
        words = [tree_of(shape, sealer, disk, root)[0] for root in disk.anchor[2]]
        self.assertEqual(words, trees)
        used = result_of(mount(shape, sealer, disk.anchor), disk)
        self.assertEqual(used, used_by(shape, sealer, disk, disk.anchor))
        volume = Volume(shape, sealer, disk.anchor, used)
        self.assertEqual(volume.free(), [block for block in range(shape.blocks) if block not in used])
        for number, tree in enumerate(trees):
            for index in (0, shape.leaves() - 1):
                self.assertEqual(result_of(volume.read_at(number, index), disk), tree[index])
        disk = disk.copy()
        volume.write(0, [99] * shape.words)
        self.assertEqual(settle(volume, disk, volume.commit())[1][0], "committed")
        changed = [(99,) * shape.words] + trees[0][1:]
        words = [tree_of(shape, sealer, disk, root)[0] for root in disk.anchor[2]]
        self.assertEqual(words, [changed] + trees[1:])

    def check_failures(self, world, talk_of, after):
        """Lets the power fail before each request of a talk, and behind the last one."""
        requests = run(talk_of(), world.disk.copy())
        anchors = set()
        for many in range(len(requests) + 1):
            disk = world.disk.copy()
            talk = talk_of()
            self.assertEqual(run(talk, disk, many), requests[:many])
            replaced = ("anchor", disk.anchor) in requests[:many]
            anchors.add(disk.anchor)
            numbers = range(len(disk.pending))
            for count in range(len(numbers) + 1):
                for lost in itertools.combinations(numbers, count):
                    self.check_mounted(world, disk.after_failure(lost), after if replaced else world.trees)
        return len(anchors)

    def test_commits(self):
        for fanout, depth in [(2, 1), (2, 2), (3, 1), (4, 1)]:
            shape = ample_shape(fanout, depth, 2)
            world = lived_in(shape, seed=fanout)
            self.assertEqual(len(world.trees), 3)
            world.settle(world.volume.sweep())
            for leaves in ([0], [0, shape.leaves() - 1], list(range(shape.leaves()))):
                tree = list(world.trees[0])
                for index in leaves:
                    world.volume.write(index, [50 + index])
                    tree[index] = (50 + index,)
                after = [tree] + world.trees[1:]
                self.assertEqual(self.check_failures(world, world.volume.commit, after), 2)
                world.volume.changed = {}

    def test_a_deeper_tree(self):
        shape = ample_shape(2, 4, 2)
        world = lived_in(shape)
        world.settle(world.volume.sweep())
        world.volume.write(5, [70])
        world.volume.write(6, [71])
        tree = list(world.trees[0])
        tree[5:7] = [(70,), (71,)]
        self.assertEqual(self.check_failures(world, world.volume.commit, [tree] + world.trees[1:]), 2)

    def test_sweeps(self):
        world = lived_in(ample_shape(2, 2, 2))
        world.volume.write(1, [60])
        self.assertEqual(self.check_failures(world, world.volume.sweep, world.trees), 1)

    def test_snapshots_and_drops(self):
        world = lived_in(ample_shape(2, 2, 3))
        world.volume.write(1, [60])
        after = world.trees + world.trees[:1]
        self.assertEqual(self.check_failures(world, world.volume.snapshot, after), 2)
        for number in (1, 2):
            after = world.trees[:number] + world.trees[number + 1:]
            self.assertEqual(self.check_failures(world, lambda: world.volume.drop(number), after), 2)

    def test_one_failure_behind_another(self):
        chance = random.Random(11)
        for fanout, depth in SMALL_TREES:
            shape = ample_shape(fanout, depth, 1)
            world = World(shape)
            for step in range(60):
                kind = chance.choice(["commit", "commit", "commit", "snapshot", "drop"])
                after = [list(tree) for tree in world.trees]
                volume = world.volume
                if kind == "commit":
                    world.settle(volume.sweep())
                    for index in chance.sample(range(shape.leaves()), chance.randint(1, shape.leaves())):
                        volume.write(index, [step + 1])
                        after[0][index] = (step + 1,)
                    talk = volume.commit()
                elif kind == "snapshot" and len(after) == 1:
                    talk = volume.snapshot()
                    after.append(after[0])
                elif kind == "drop" and len(after) == 2:
                    talk = volume.drop(1)
                    after.pop()
                else:
                    continue
                epoch = world.disk.anchor[1]
                run(talk, world.disk, chance.randint(0, 2 * shape.cells()))
                self.assertNotEqual(talk.request()[0], "refused")
                lost = [number for number in range(len(world.disk.pending)) if chance.random() < 0.5]
                world.disk = world.disk.after_failure(lost)
                if world.disk.anchor[1] > epoch:
                    world.trees = after
                used = result_of(mount(shape, world.sealer, world.disk.anchor), world.disk)
                world.volume = Volume(shape, world.sealer, world.disk.anchor, used)
                words = [tree_of(shape, world.sealer, world.disk, root)[0] for root in world.disk.anchor[2]]
                self.assertEqual(words, world.trees)
                self.assertEqual(used, used_by(shape, world.sealer, world.disk, world.disk.anchor))


class BlocksInUseTest(unittest.TestCase):
    def test_blocks_in_use_are_never_overwritten(self):
        chance = random.Random(5)
        for fanout, depth in SMALL_TREES:
            world = World(ample_shape(fanout, depth, 1))
            for step in range(40):
                if step == 20:
                    world.snapshot()
                leaves = chance.sample(range(world.shape.leaves()), chance.randint(1, world.shape.leaves()))
                for index in leaves:
                    world.volume.write(index, [step])
                world.settle(world.volume.sweep())
                used = set(used_by(world.shape, world.sealer, world.disk, world.disk.anchor))
                talk = world.volume.commit()
                written = [request[1] for request in run(talk, world.disk) if request[0] == "write"]
                self.assertEqual(len(set(written)), talk.taken())
                self.assertFalse(used & set(written))
                self.assertTrue(set(written) <= set(range(world.shape.blocks)))
                world.volume.finish(talk)
                now = set(used_by(world.shape, world.sealer, world.disk, world.disk.anchor))
                self.assertTrue(now <= set(world.volume.used))
                self.assertEqual(set(world.volume.used), used | set(written))

    def test_a_flush_stands_between_the_last_write_and_the_anchor(self):
        world = World(make(2, 2))
        for leaves in ([0], [1, 2], [0, 1, 2, 3]):
            for index in leaves:
                world.volume.write(index, [index + 1])
            talk = world.volume.commit()
            kinds = [request[0] for request in run(talk, world.disk)]
            world.volume.finish(talk)
            self.assertEqual(kinds[-2:], ["flush", "anchor"])
            self.assertEqual(kinds, sorted(kinds, key=["read", "write", "flush", "anchor"].index))


class AmpleTest(unittest.TestCase):
    def test_no_commit_finds_too_few_blocks(self):
        for fanout, depth in SMALL_TREES + [(2, 4), (4, 3)]:
            for snapshots in (0, 1, 2, 3):
                shape = ample_shape(fanout, depth, snapshots)
                world = World(shape)
                chance = random.Random(snapshots)
                leaves = list(range(shape.leaves()))
                rounds = 24 if shape.leaves() < 64 else 8
                for step in range(rounds):
                    word = step + 1
                    some = chance.sample(leaves, chance.randint(1, len(leaves)))
                    changed = [leaves, [chance.choice(leaves)], some, leaves][step % 4]
                    kind, result = world.commit({index: word for index in changed})
                    self.assertEqual([kind, result[0]], ["done", "committed"])
                    if step % 4 == 3 and len(world.trees) <= snapshots:
                        self.assertEqual(world.snapshot()[1][0], "committed")
                # Each snapshot was taken behind a commit of all leaves, so no two trees share a block.
                if rounds == 24:
                    self.assertEqual(len(world.volume.anchor[2]), snapshots + 1)
                    world.commit({index: 200 for index in leaves})
                    used = world.settle(world.volume.sweep())[1]
                    self.assertEqual(len(used), shape.cells() * (snapshots + 1))
                    self.assertEqual(world.commit({index: 201 for index in leaves})[1][0], "committed")
                    self.assertEqual(len(world.volume.used), shape.blocks)
                words = [tree_of(shape, world.sealer, world.disk, root)[0] for root in world.disk.anchor[2]]
                self.assertEqual(words, world.trees)

    def test_one_block_less_may_be_too_few(self):
        for snapshots in (0, 1, 2, 3):
            world = World(ample_shape(2, 2, snapshots, less=1))
            leaves = range(4)
            for word in range(1, snapshots + 2):
                self.assertEqual(world.commit({index: word for index in leaves})[1][0], "committed")
                if word <= snapshots:
                    world.snapshot()
            self.assertEqual(world.commit({index: 99 for index in leaves}), ("done", ("full", 7)))
            self.assertEqual(world.commit({0: 99, 1: 99, 2: 99, 3: 99}), ("done", ("full", 7)))
            self.assertEqual(len(world.volume.changed), 4)


class LiarTest(unittest.TestCase):
    """Random lives of volumes on disks that lie, each held against a plain model."""

    def lie(self, chance, history, disk, block):
        """Returns what a disk that lies answers to a read."""
        truth = disk.blocks.get(block)
        kind = chance.randrange(5)
        if kind == 0:
            return chance.choice(history[block])
        if kind == 1:
            return chance.choice(list(disk.blocks.values()))
        if kind == 2 and truth is not None:
            return chance.choice(spoiled(truth))
        if kind == 3:
            return chance.choice(chance.choice(list(history.values())))
        return chance.choice(ANSWERS)

    def live(self, shape, chance, honesty, steps):
        world = World(shape)
        history = {block: [None] for block in range(shape.blocks)}
        told = {"done": 0, "refused": 0, "full": 0}
        for step in range(steps):
            volume, changed = world.volume, dict(world.volume.changed)
            now = list(world.trees[0])
            for index, words in changed.items():
                now[index] = words
            kind = chance.choice(["write", "write", "read", "read_at", "commit", "sweep", "snapshot", "drop", "mount"])
            index = chance.randrange(shape.leaves())
            number = chance.randrange(len(world.trees))
            expected, after = None, world.trees
            if kind == "write":
                volume.write(index, [chance.randrange(256) for _ in range(shape.words)])
                continue
            if kind == "read":
                talk, expected = volume.read(index), now[index]
            elif kind == "read_at":
                talk, expected = volume.read_at(number, index), world.trees[number][index]
            elif kind == "commit":
                talk, after = volume.commit(), [now] + world.trees[1:]
            elif kind == "snapshot":
                talk, after = volume.snapshot(), world.trees + [world.trees[0]]
            elif kind == "drop" and number > 0:
                talk, after = volume.drop(number), world.trees[:number] + world.trees[number + 1:]
            elif kind == "mount":
                talk = mount(shape, world.sealer, world.disk.anchor)
                expected = used_by(shape, world.sealer, world.disk, world.disk.anchor)
            else:
                talk = volume.sweep()
                expected = used_by(shape, world.sealer, world.disk, world.disk.anchor)
            lied = False
            while not talk.has_ended():
                request = talk.request()
                answer = world.disk.perform(request)
                if request[0] == "write":
                    history[request[1]].append(request[2])
                if request[0] == "read" and chance.random() > honesty:
                    answer = self.lie(chance, history, world.disk, request[1])
                    lied = lied or answer != world.disk.blocks[request[1]]
                elif request[0] != "read":
                    answer = chance.choice(ANSWERS)
                self.assertIsNone(talk.answer(answer))
            end, result = talk.request()
            self.assertEqual(end, "refused" if lied else "done")
            told[end] += 1
            if end == "done" and expected is not None:
                self.assertEqual(result, expected)
            if end == "done" and kind in ("commit", "snapshot", "drop") and expected is None:
                told["full"] += result[0] == "full"
                if result[0] == "committed":
                    world.trees = after
            if kind != "mount":
                volume.finish(talk)
            if kind == "mount" and end == "done":
                world.disk = world.disk.after_failure(())
                world.volume = Volume(shape, world.sealer, world.disk.anchor, result)
            self.assertEqual(world.volume.anchor, world.disk.anchor)
            words = [tree_of(shape, world.sealer, world.disk, root)[0] for root in world.disk.anchor[2]]
            self.assertEqual(words, world.trees)
        return told

    def test_disks_that_lie(self):
        chance = random.Random(2)
        for fanout, depth in SMALL_TREES:
            for honesty in (0.3, 0.9, 0.98):
                shape = make(fanout, depth, words=2, blocks=3 * make(fanout, depth).cells(), snapshots=2)
                told = self.live(shape, chance, honesty, 250)
                self.assertGreater(told["refused"], 5)
                self.assertGreater(told["done"], 20)

    def test_a_disk_that_never_lies_is_never_refused(self):
        chance = random.Random(3)
        for fanout, depth in SMALL_TREES + [(2, 5), (3, 3)]:
            for blocks in (2, 3, 5):
                shape = make(fanout, depth, words=1, blocks=blocks * make(fanout, depth).cells(), snapshots=3)
                told = self.live(shape, chance, 1, 250)
                self.assertEqual(told["refused"], 0)

    def test_papers_of_a_disk_that_lies(self):
        chance = random.Random(4)
        shape = ample_shape(2, 3, 1)
        world = lived_in(shape)
        root = world.disk.anchor[2][0]
        cells = list(world.disk.blocks.values())
        accepted = 0
        for _ in range(2000):
            index = chance.randrange(8)
            talk = ReadTalk(shape, world.sealer, root, index)
            run(talk, world.disk)
            paper = paper_of(talk)
            if chance.random() < 0.7:
                lies = chance.choice([cells, spoiled(chance.choice(cells)), ANSWERS])
                paper[chance.randrange(4)] = chance.choice(lies)
            words = check_paper(shape, world.sealer, root, index, paper)
            self.assertIn(words, (None, world.trees[0][index]))
            accepted += words is not None
        self.assertGreater(accepted, 500)
        self.assertLess(accepted, 1500)


class DurabilityTest(unittest.TestCase):
    def test_a_lost_write_would_be_seen(self):
        # The disk of these tests does lose writes: what is not flushed is gone.
        world = World(make(2, 1))
        world.volume.write(0, [1])
        talk = world.volume.commit()
        run(talk, world.disk, 3)
        self.assertEqual(len(world.disk.pending), 2)
        self.assertEqual(sorted(world.disk.after_failure((0, 1)).blocks), [0, 1])
        self.assertEqual(sorted(world.disk.after_failure((0,)).blocks), [0, 1, 3])
        run(talk, world.disk, 1)
        self.assertEqual(sorted(world.disk.after_failure(()).blocks), [0, 1, 2, 3])

    def test_the_sealer_outlives_a_power_failure(self):
        shape = make(2, 1, blocks=6)
        world = World(shape)
        world.volume.write(0, [1])
        run(world.volume.commit(), world.disk, 3)
        disk = world.disk.after_failure((0, 1))
        volume = Volume(shape, world.sealer, disk.anchor, result_of(mount(shape, world.sealer, disk.anchor), disk))
        volume.write(0, [2])
        self.assertEqual(settle(volume, disk, volume.commit()), ("done", ("committed", ("anchor", 1, ((3, 6),)))))
        self.assertEqual(disk.blocks[3], ("node", (2, 5), (0, 1)))


if __name__ == "__main__":
    unittest.main()
