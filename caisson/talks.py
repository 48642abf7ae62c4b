"""Talks: they state requests to a disk, one at a time, and take its answers."""

from caisson.cells import parts
from caisson.errors import TalkError


def apart(request):
    """Returns a request that shares no list with this one."""
    # Only a result may be a list; cells, anchors and answers of a disk hold none.
    if request[0] == "done" and isinstance(request[1], list):
        return ("done", list(request[1]))
    return request


class Talk:
    """A talk with a single request."""

    def __init__(self, request):
        self.answers = 0
        self._request = apart(request)

    def request(self):
        """Returns the present request."""
        return apart(self._request)

    def has_ended(self):
        """Tells if the talk takes no more answers."""
        return self._request[0] in ("done", "refused")

    def answer(self, value):
        """Takes the answer to the present request."""
        if self.has_ended():
            raise TalkError(self.answers)
        self.answers += 1
        self._request = self.following(value)

    def following(self, value):
        """Returns the request that comes after this answer."""
        return ("done", value)


class CellTalk(Talk):
    """A talk that reads the cell of an entry, and ends if it is not accepted."""

    def __init__(self, sealer, entry):
        super().__init__(("read", entry[0]))
        self._sealer = sealer
        self._entry = entry

    def following(self, value):
        """Returns the request that comes after this answer."""
        block, mark = self._entry
        # What is not accepted may be of any kind and depth: it is not looked into.
        if not self._sealer.knows(value, mark):
            return ("refused", block)
        return self.accepted(value)

    def accepted(self, cell):
        """Returns the request that comes after this accepted cell."""
        return ("done", cell)

    def reading(self, entry):
        """Returns the request for the cell of an entry, which is accepted for it only."""
        self._entry = entry
        return ("read", entry[0])


class ReadTalk(CellTalk):
    """A talk that reads the cells on the way from a root to a leaf."""

    def __init__(self, shape, sealer, root, index):
        super().__init__(sealer, root)
        self.cells = []
        self._way = shape.way(index)

    def accepted(self, cell):
        """Returns the request that comes after this accepted cell."""
        self.cells.append(cell)
        if self.answers > len(self._way):
            return ("done", parts(cell))
        return self.reading(parts(cell)[self._way[self.answers - 1]])


class ScanTalk(CellTalk):
    """A talk that reads all cells that some roots lead to."""

    def __init__(self, shape, sealer, roots):
        super().__init__(sealer, roots[0])
        self._depth = shape.depth
        self._levels = {}
        self._entries = []
        self.note(roots, 0)

    def note(self, entries, level):
        """Notes the entries of a level that have not been noted, to be read behind the others."""
        for entry in entries:
            if entry not in self._levels:
                self._levels[entry] = level
                self._entries.append(entry)

    def accepted(self, cell):
        """Returns the request that comes after this accepted cell."""
        level = self._levels[self._entry]
        if level < self._depth:
            self.note(parts(cell), level + 1)
        if self.answers < len(self._entries):
            return self.reading(self._entries[self.answers])
        return ("done", sorted({block for block, _ in self._entries}))


class ChangeTalk(Talk):
    """A talk that states requests whose answers do not matter."""

    def __init__(self, requests, result):
        super().__init__(requests[0])
        self._requests = [*requests, apart(("done", result))]

    def following(self, value):
        """Returns the request that comes after this answer."""
        return self._requests[self.answers]
