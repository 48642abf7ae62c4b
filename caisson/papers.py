"""Papers: lists of cells that show the words of a leaf to whoever holds its root."""

from caisson.talks import ReadTalk


def paper_of(talk):
    """Returns the paper of a talk that has read a leaf."""
    return list(talk.cells)


def check_paper(shape, sealer, root, index, paper):
    """Returns the words that a paper shows, or None if it is not accepted."""
    if len(paper) != shape.depth + 1:
        return None
    # A paper is as good as a disk that answers a read with its cells.
    talk = ReadTalk(shape, sealer, root, index)
    for cell in paper:
        if not talk.has_ended():
            talk.answer(cell)
    request = talk.request()
    if request[0] == "refused":
        return None
    return request[1]
