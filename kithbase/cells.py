"""The writes into cells of values and references."""

from kithbase.undo import knows


def shown_writes(store, allowed, writes):
    """Returns a new list of those of the writes into one cell that no other one of them knows."""
    # The last write most often knows all others, so asking it first saves asking the rest.
    later = writes[::-1]
    return [write for write in writes if not any(knows(store, other, write) for other in later)]


def has_kind(holds, value):
    """True if the value may be put into a cell of a column that holds this."""
    if holds == "integer":
        return value is None or (isinstance(value, int) and not isinstance(value, bool))
    if holds == "text":
        return value is None or isinstance(value, str)
    if holds == "boolean":
        return value is None or isinstance(value, bool)
    return False
