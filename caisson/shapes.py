"""Shapes of volumes, and the ways in their trees."""

from caisson.errors import ShapeError

MOST_DEPTH = 6
MOST_LEAVES = 64
MOST_BLOCKS = 1000


def leaves_below(fanout, levels):
    """Returns the number of leaves that a cell has so many levels below it."""
    number = 1
    for _ in range(levels):
        number = number * fanout
    return number


def is_depth(fanout, depth):
    """Tells if a tree of this fanout may have this depth."""
    # The order matters: a depth that is far too large is never multiplied out.
    return 1 <= depth <= MOST_DEPTH and leaves_below(fanout, depth) <= MOST_LEAVES


def out_of_range(shape):
    """Returns the name of the first number of a shape that is out of its range, or None."""
    if not 2 <= shape.fanout <= 4:
        return "fanout"
    if not is_depth(shape.fanout, shape.depth):
        return "depth"
    if not 1 <= shape.words <= 4:
        return "words"
    if not shape.depth + 1 <= shape.blocks <= MOST_BLOCKS:
        return "blocks"
    if not 0 <= shape.snapshots <= 3:
        return "snapshots"
    return None


class Shape:
    """The numbers that a volume is laid out by."""

    def __init__(self, *, fanout, depth, words, blocks, snapshots=0):
        self.fanout = fanout
        self.depth = depth
        self.words = words
        self.blocks = blocks
        self.snapshots = snapshots
        wrong = out_of_range(self)
        if wrong is not None:
            raise ShapeError(wrong)

    def leaves(self):
        """Returns the number of leaves."""
        return leaves_below(self.fanout, self.depth)

    def way(self, index):
        """Returns the tuple of the child numbers from the root to a leaf."""
        digits = []
        rest = index
        for _ in range(self.depth):
            digits.append(rest % self.fanout)
            rest = rest // self.fanout
        return tuple(digits[::-1])

    def cells(self):
        """Returns the number of cells of a full tree."""
        return sum([leaves_below(self.fanout, level) for level in range(self.depth + 1)])

    def ample(self):
        """Returns the number of blocks with which no commit after a sweep finds too few."""
        return self.cells() * (self.snapshots + 2)


def prefixes(shape, indexes):
    """Returns the ways to all inner cells above these leaves, the longest ones first."""
    ways = [shape.way(index) for index in indexes]
    inner = []
    for length in reversed(range(shape.depth)):
        inner.extend(sorted({way[:length] for way in ways}))
    return inner


def needed(shape, indexes):
    """Returns the number of blocks that a commit of these leaves needs."""
    return len(indexes) + len(prefixes(shape, indexes))
