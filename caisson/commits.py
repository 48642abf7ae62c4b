"""Commits: they write the changed leaves and all that lies above them anew."""

from caisson.cells import leaf, node, parts, replaced
from caisson.shapes import needed, prefixes
from caisson.talks import CellTalk, ChangeTalk


class Draft:
    """The new cells of a commit: their writes in order, and their entries by their ways."""

    def __init__(self, sealer, blocks):
        self.writes = []
        self.entries = {}
        self._sealer = sealer
        self._blocks = blocks

    def put(self, way, cell):
        """Gives the next block to the new cell of a way."""
        block = self._blocks[len(self.writes)]
        self.writes.append(("write", block, cell))
        self.entries[way] = (block, self._sealer.mark(cell))

    def renew(self, way, cell):
        """Puts an inner cell in which changed children have their new entries."""
        entries = []
        for child, entry in enumerate(parts(cell)):
            entries.append(self.entries.get((*way, child), entry))
        self.put(way, node(entries))


class CommitTalk(CellTalk):
    """A talk that commits changed leaves."""

    def __init__(self, shape, sealer, anchor, changed, free):
        super().__init__(sealer, anchor[2][0])
        indexes = sorted(changed)
        self._anchor = anchor
        self._leaves = [(shape.way(index), leaf(list(changed[index]))) for index in indexes]
        self._inner = prefixes(shape, indexes)
        # Of equal length they stay in ascending order.
        self._reads = sorted(self._inner, key=len)
        self._cells = {}
        self._needed = needed(shape, indexes)
        self._blocks = free[:self._needed]
        self._change = None
        if not indexes:
            self._request = ("done", ("committed", anchor))
        elif self._needed > len(free):
            self._request = ("done", ("full", self._needed))

    def taken(self):
        """Returns the number of blocks that the commit needs."""
        return self._needed

    def written(self):
        """Returns the list of the blocks that the commit writes if it comes to its writes."""
        return list(self._blocks)

    def following(self, value):
        """Returns the request that comes after this answer."""
        if self._change is None:
            return super().following(value)
        self._change.answer(value)
        return self._change.request()

    def accepted(self, cell):
        """Returns the request that comes after this accepted cell."""
        self._cells[self._reads[self.answers - 1]] = cell
        if self.answers < len(self._reads):
            way = self._reads[self.answers]
            return self.reading(parts(self._cells[way[:-1]])[way[-1]])
        self._change = self.change()
        return self._change.request()

    def change(self):
        """Returns a talk that writes the new cells and replaces the anchor."""
        draft = Draft(self._sealer, self._blocks)
        for way, cell in self._leaves:
            draft.put(way, cell)
        for way in self._inner:
            draft.renew(way, self._cells[way])
        anchor = replaced(self._anchor, (draft.entries[()], *self._anchor[2][1:]))
        return ChangeTalk([*draft.writes, ("flush",), ("anchor", anchor)], ("committed", anchor))
