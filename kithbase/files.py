"""Files on a disk that loses what was not flushed when power fails."""


class File:
    """A list of bytes that are written in steps."""

    def __init__(self):
        self._lasting = []
        # The steps after the last flush: a byte that was appended, or -1 - size where the file was truncated to a size.
        self._steps = []

    def write(self, data, steps):
        """Appends bytes, with one step for each, and returns the number of steps that were done."""
        done = len(data) if steps is None else min(len(data), steps)
        self._steps.extend(data[:done])
        return done

    def shorten(self, size, steps):
        """Truncates the file to a size in one step, and returns the number of steps that were done."""
        if steps == 0:
            return 0
        self._steps.append(-1 - size)
        return 1

    def flush(self, steps):
        """Makes lasting what was written, in one step, and returns the number of steps that were done."""
        if steps == 0:
            return 0
        self.lose(len(self._steps))
        return 1

    def content(self):
        """Returns the list of bytes, with what was not flushed."""
        return _after(self._lasting, self._steps)

    def pending(self):
        """Returns the number of steps after the last flush."""
        return len(self._steps)

    def lose(self, steps):
        """Loses all but the first ones of the steps after the last flush, so many; what is left is lasting."""
        self._lasting = _after(self._lasting, self._steps[:steps])
        self._steps = []


def _after(content, steps):
    """Returns the bytes of a file with this content after the steps."""
    found = list(content)
    for step in steps:
        if step >= 0:
            found.append(step)
        else:
            del found[-1 - step:]
    return found
