"""Live results: what came and went from one answer to the next."""

from kithbase.meaning import answer
from kithbase.values import row_key


def came(old, new):
    """Returns the list of the rows that come from an old answer to a new one."""
    left = {}
    for row in old:
        key = row_key(row)
        left[key] = left.get(key, 0) + 1
    found = []
    for row in new:
        key = row_key(row)
        if left.get(key, 0) > 0:
            left[key] -= 1
        else:
            found.append(row)
    return found


def went(old, new):
    """Returns the list of the rows that go from an old answer to a new one."""
    return came(new, old)


def change_of(old, new):
    """Returns the difference of two lists: a dict that tells how often more each row stands in the new one."""
    counts = {}
    for row in new:
        counts[row] = counts.get(row, 0) + 1
    for row in old:
        counts[row] = counts.get(row, 0) - 1
    return _without_zeros(counts)


def join_change(old_left, new_left, old_right, new_right, condition):
    """Returns the difference of the join of two lists under a condition on the rows of the join."""
    counts = {}
    _add_pairs(counts, change_of(old_left, new_left), change_of([], new_right), condition)
    _add_pairs(counts, change_of([], old_left), change_of(old_right, new_right), condition)
    return _without_zeros(counts)


def _add_pairs(counts, firsts, seconds, condition):
    """Adds the product of the numbers of each two rows for which the condition holds. This modifies `counts`."""
    for first in firsts:
        for second in seconds:
            row = first + second
            if condition(row):
                counts[row] = counts.get(row, 0) + firsts[first] * seconds[second]


def _without_zeros(counts):
    """Returns a new dict without the rows of which there are none."""
    return {row: many for row, many in counts.items() if many != 0}


class Live:
    """A live result, which remembers the answer that it told last."""

    def __init__(self, tree, parameters):
        self._tree = tree
        self._parameters = list(parameters)
        self._rows = []

    def turn(self, sources):
        """Answers the question again, and returns the names of its columns, the rows that came and those that went."""
        names, rows = answer(self._tree, sources, self._parameters)
        old = self._rows
        self._rows = rows
        return (names, came(old, rows), went(old, rows))
