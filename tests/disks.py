"""What the tests share: disks, ways to lie, and plain models of what a volume must do."""

from caisson.cells import blank_volume
from caisson.sealer import Sealer
from caisson.shapes import Shape

ALL_TREES = [(2, depth) for depth in range(1, 7)] + [(fanout, depth) for fanout in (3, 4) for depth in (1, 2, 3)]
SMALL_TREES = [(2, 1), (2, 2), (2, 3), (3, 1), (3, 2), (4, 1), (4, 2)]


def make(fanout, depth, words=1, blocks=1000, snapshots=0):
    return Shape(fanout=fanout, depth=depth, words=words, blocks=blocks, snapshots=snapshots)


class Disk:
    """A disk that tells the truth, with a switch for the power."""

    def __init__(self, writes, anchor):
        self.blocks = dict(writes)
        self.anchor = anchor
        self.pending = []
        self.safe = dict(writes)

    def perform(self, request):
        kind = request[0]
        if kind == "read":
            return self.blocks.get(request[1])
        if kind == "write":
            self.blocks[request[1]] = request[2]
            self.pending.append(request[1:])
        elif kind == "flush":
            self.safe = dict(self.blocks)
            self.pending = []
        else:
            assert kind == "anchor", request
            self.anchor = request[1]
        return None

    def after_failure(self, lost):
        """Returns the disk behind a power failure that has lost the pending writes with these numbers."""
        disk = Disk(self.safe, self.anchor)
        for number, (block, cell) in enumerate(self.pending):
            if number not in lost:
                disk.blocks[block] = cell
        disk.safe = dict(disk.blocks)
        return disk

    def copy(self):
        disk = Disk(self.blocks, self.anchor)
        disk.pending = list(self.pending)
        disk.safe = dict(self.safe)
        return disk


def blank(shape):
    """Returns a sealer, and a disk with a blank volume."""
    sealer = Sealer()
    writes, anchor = blank_volume(shape, sealer)
    return sealer, Disk(writes, anchor)


def run(talk, disk, most=None):
    """Performs the requests of a talk, at most so many, and returns them."""
    requests = []
    while not talk.has_ended() and len(requests) != most:
        requests.append(talk.request())
        talk.answer(disk.perform(talk.request()))
    return requests


def result_of(talk, disk):
    """Returns the result of a talk that must come to its end."""
    run(talk, disk)
    kind, result = talk.request()
    assert kind == "done", (kind, result)
    return result


def settle(volume, disk, talk):
    """Brings a talk of a volume to its end, lets the volume take it over, and returns its last request."""
    run(talk, disk)
    volume.finish(talk)
    return talk.request()


def entry_of(shape, disk, root, level, number):
    """Returns the entry of the cell with this number, from the left, on a level."""
    entry = root
    for depth in range(1, level + 1):
        child = number // shape.fanout ** (level - depth) % shape.fanout
        entry = disk.blocks[entry[0]][1 + child]
    return entry


def tree_of(shape, sealer, disk, root):
    """Returns the words of all leaves, and the set of all blocks, of a tree that must be whole."""
    level, blocks = [root], set()
    for depth in range(shape.depth + 1):
        cells = []
        for block, mark in level:
            blocks.add(block)
            cells.append(disk.blocks[block])
            assert sealer.knows(cells[-1], mark), (block, mark)
            assert cells[-1][0] == ("leaf" if depth == shape.depth else "node")
        if depth < shape.depth:
            level = [entry for cell in cells for entry in cell[1:]]
    return [cell[1:] for cell in cells], blocks


def used_by(shape, sealer, disk, anchor):
    """Returns the ascending list of the blocks that an anchor leads to."""
    blocks = set()
    for root in anchor[2]:
        blocks |= tree_of(shape, sealer, disk, root)[1]
    return sorted(blocks)


def nested(depth, core):
    """Returns a core in so many tuples around it."""
    for _ in range(depth):
        core = (core,)
    return core


def huge():
    """Returns an answer that is far larger than the room it takes."""
    answer = ()
    for _ in range(200):
        answer = ("node", answer, answer)
    return answer


ANSWERS = [
    None, 0, 1, -7, 10**50, "", "leaf", "done", "refused", (), ((),), (None,), ("leaf",), ("node",), ("leaf", 0),
    ("done", 1), ("refused", 2), ("leaf", None), ("node", (0, 1), (0, 1)), ("node", 0, 1), (1, ("a", (2, None))),
    nested(100000, None), ("node", nested(100000, 0)), huge(),
]


def spoiled(cell):
    """Returns cells that are almost this one."""
    last = cell[-1]
    if isinstance(last, tuple):
        others = [(last[0] + 1, last[1]), (last[0], last[1] + 1), last[:1], last + (0,), list(last)[0], (last,), None]
        others.append((str(last[0]), last[1]))
    else:
        others = [last + 1, str(last), (last,), None, ()]
    changed = [cell[:-1] + (other,) for other in others]
    kind = "node" if cell[0] == "leaf" else "leaf"
    return changed + [
        cell[:-1], cell[:1], cell + cell[-1:], cell + (None,), cell[1:], (kind,) + cell[1:], (cell,), (cell, cell),
        (cell[0].upper(),) + cell[1:], (None,) + cell[1:], cell[::-1], (nested(5000, cell),) + cell[1:],
    ]


def reference_commit(shape, disk, marks, anchor, changed, free):
    """Returns the reads, the other requests, and the new anchor of a commit, by numbers instead of ways.

    `marks` is a dict from each marked text to its mark, and gets the new ones.
    """
    above = {}
    for level in range(shape.depth + 1):
        width = shape.fanout ** (shape.depth - level)
        above[level] = sorted({index // width for index in changed})
    reads, old = [], {}
    for level in range(shape.depth):
        for number in above[level]:
            block, _ = entry_of(shape, disk, anchor[2][0], level, number)
            reads.append(("read", block))
            old[level, number] = disk.blocks[block]
    writes, new = [], {}
    for level in range(shape.depth, -1, -1):
        for number in above[level]:
            if level == shape.depth:
                cell = ("leaf",) + tuple(changed[number])
            else:
                entries = list(old[level, number][1:])
                for child in range(shape.fanout):
                    if (level + 1, number * shape.fanout + child) in new:
                        entries[child] = new[level + 1, number * shape.fanout + child]
                cell = ("node",) + tuple(entries)
            mark = marks.setdefault(cell, len(marks) + 1)
            new[level, number] = (free[len(writes)], mark)
            writes.append(("write", free[len(writes)], cell))
    after = ("anchor", anchor[1] + 1, (new[0, 0],) + anchor[2][1:])
    return reads, writes + [("flush",), ("anchor", after)], after
