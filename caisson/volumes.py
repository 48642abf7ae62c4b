"""Volumes: leaves that are read, changed, committed and kept as snapshots."""

from caisson.cells import replaced
from caisson.commits import CommitTalk
from caisson.talks import ChangeTalk, ReadTalk, ScanTalk, Talk


def replacing(anchor):
    """Returns a talk that puts this anchor in the place of the present one."""
    return ChangeTalk([("anchor", anchor)], ("committed", anchor))


def mount(shape, sealer, anchor):
    """Returns a talk that finds the blocks in use."""
    return ScanTalk(shape, sealer, anchor[2])


class Volume:
    """A volume: its anchor, the blocks in use, and the changed leaves."""

    def __init__(self, shape, sealer, anchor, used):
        self.anchor = anchor
        self.used = list(used)
        self.changed = {}
        self._shape = shape
        self._sealer = sealer

    def free(self):
        """Returns the ascending list of the blocks that are not in use."""
        used = set(self.used)
        return [block for block in range(self._shape.blocks) if block not in used]

    def write(self, index, words):
        """Changes a leaf."""
        self.changed[index] = tuple(words)

    def read(self, index):
        """Returns a talk that reads a leaf as it is now."""
        if index in self.changed:
            return Talk(("done", self.changed[index]))
        return self.read_at(0, index)

    def read_at(self, number, index):
        """Returns a talk that reads a leaf of the present root (0) or of a snapshot."""
        return ReadTalk(self._shape, self._sealer, self.anchor[2][number], index)

    def commit(self):
        """Returns a talk that commits the changed leaves."""
        return CommitTalk(self._shape, self._sealer, self.anchor, self.changed, self.free())

    def sweep(self):
        """Returns a talk that finds the blocks in use."""
        return mount(self._shape, self._sealer, self.anchor)

    def snapshot(self):
        """Returns a talk that keeps the present root as a snapshot."""
        roots = self.anchor[2]
        kept = len(roots) - 1
        if kept >= self._shape.snapshots:
            return Talk(("done", ("full", kept)))
        return replacing(replaced(self.anchor, (*roots, roots[0])))

    def drop(self, number):
        """Returns a talk that removes a snapshot."""
        roots = self.anchor[2]
        return replacing(replaced(self.anchor, roots[:number] + roots[number + 1:]))

    def finish(self, talk):
        """Takes over the result of a talk that has ended."""
        request = talk.request()
        if request[0] != "done":
            return
        result = request[1]
        if isinstance(talk, ScanTalk):
            self.used = result
        elif isinstance(talk, ChangeTalk):
            self.anchor = result[1]
        elif isinstance(talk, CommitTalk) and result[0] == "committed":
            self.anchor = result[1]
            self.used = sorted(self.used + talk.written())
            self.changed = {}
