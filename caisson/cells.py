"""Cells, anchors, and the contents of a blank volume."""


def leaf(words):
    """Returns the leaf cell with these words."""
    return ("leaf", *words)


def node(entries):
    """Returns the inner cell with these entries."""
    return ("node", *entries)


def parts(cell):
    """Returns the tuple of the words of a leaf cell, or of the entries of an inner cell."""
    return cell[1:]


def replaced(anchor, roots):
    """Returns the anchor that comes after this one, with these roots."""
    return ("anchor", anchor[1] + 1, roots)


def blank_volume(shape, sealer):
    """Returns the writes and the anchor of a volume in which all words are 0."""
    cell = leaf([0] * shape.words)
    writes = [(0, cell)]
    entry = (0, sealer.mark(cell))
    for block in range(1, shape.depth + 1):
        cell = node([entry] * shape.fanout)
        writes.append((block, cell))
        entry = (block, sealer.mark(cell))
    return writes, ("anchor", 0, (entry,))
