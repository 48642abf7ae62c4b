"""The sealer: the trusted part that gives every text its own mark."""


def spelled(text):
    """Returns a text as one flat tuple, different for each text."""
    # A text may be nested deeper than Python can hash or compare by recursion.
    signs = []
    waiting = [text]
    while waiting:
        part = waiting.pop()
        if isinstance(part, tuple):
            # A tuple shows its length first, so it needs no sign for its end.
            # The length stands in a tuple to differ from an integer of the text.
            signs.append((len(part),))
            waiting.extend(part)
        else:
            signs.append(part)
    return tuple(signs)


def is_same(answer, text):
    """Tells if an answer of a disk is exactly this text."""
    # Part by part, so that an answer costs no more than the text it is held
    # against, however deep or large the disk has made it.
    waiting = [(answer, text)]
    while waiting:
        left, right = waiting.pop()
        if isinstance(left, tuple) and isinstance(right, tuple):
            if len(left) != len(right):
                return False
            waiting.extend(list(zip(left, right)))
        elif left != right:
            return False
    return True


class Sealer:
    """Gives the marks 1, 2, 3 and so on to texts."""

    def __init__(self):
        self._marks = {}
        self._texts = []

    def mark(self, text):
        """Returns the mark of a text, a new one if it has none."""
        key = spelled(text)
        if key not in self._marks:
            self._texts.append(text)
            self._marks[key] = len(self._texts)
        return self._marks[key]

    def knows(self, text, mark):
        """Tells if exactly this text has exactly this mark."""
        if not 1 <= mark <= len(self._texts):
            return False
        return is_same(text, self._texts[mark - 1])
