"""Lists of rows: which are the same, groups of them, and aggregates over groups."""

from kithbase.values import bounded, row_key, value_key


def distinct_rows(rows):
    """Returns a new list with the first of rows that are the same."""
    first = {}
    for row in rows:
        first.setdefault(row_key(row), row)
    return list(first.values())


def combined(operator, first, second):
    """Returns a new list of the rows that a set operator makes of two lists."""
    if operator == "union all":
        return first + second
    if operator == "union":
        return distinct_rows(first + second)
    there = {row_key(row): True for row in second}
    wanted = operator == "intersect"
    return [row for row in distinct_rows(first) if (row_key(row) in there) == wanted]


def groups_of(rows, indexes):
    """Returns the list of the lists of rows with the same values at the indexes; with None there is one list."""
    if indexes is None:
        return [rows]
    groups = {}
    for row in rows:
        groups.setdefault(row_key([row[index] for index in indexes]), []).append(row)
    return list(groups.values())


def fold(function, operands):
    """Returns the value of an aggregate over the values of its operand."""
    there = [value for value in operands if value is not None]
    if function == "count":
        return len(there)
    if not there:
        return None
    if function == "sum":
        return bounded(sum(there))
    return min(there, key=value_key) if function == "min" else max(there, key=value_key)


def sorted_rows(rows, order):
    """Returns a new list of the rows by the pairs (index, descending), and where they tie by all columns."""
    found = sorted(rows, key=row_key)
    # Sorting keeps the order of what ties, so the key that decides first comes last.
    for index, descending in reversed(order):
        if descending:
            found = sorted(found, key=lambda row: value_key(row[index]), reverse=True)
        else:
            found = sorted(found, key=lambda row: value_key(row[index]))
    return found
