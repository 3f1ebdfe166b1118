"""Changes, their past and their order."""


class Change:
    """A change: what one member has written at once."""

    def __init__(self, author, number, heard, capability, publics, parts):
        self.author = author
        self.number = number
        self.heard = frozen(heard)
        self.capability = capability
        self.publics = frozen(publics)
        self.parts = frozen(parts)

    def name(self):
        """Returns the name of the change."""
        return (self.author, self.number)

    def header(self):
        """Returns all but the parts of the change."""
        return (self.author, self.number, self.heard, self.capability, self.publics)

    def with_parts(self, parts):
        """Returns a new change with the same header and other parts."""
        return Change(self.author, self.number, self.heard, self.capability, self.publics, parts)


def frozen(value):
    """Returns the value with tuples in place of all lists in it, so that nobody can modify it."""
    if isinstance(value, (list, tuple)):
        return tuple([frozen(item) for item in value])
    return value


def in_past(name, change):
    """True if the change called `name` is in the past of `change`."""
    author, number = name
    return 0 <= author < len(change.heard) and 1 <= number <= change.heard[author]


def order_key(change):
    """Returns what changes are ordered by."""
    return (sum(change.heard), change.author, change.number)


def in_order(changes):
    """Returns a new list of the changes in their order."""
    return sorted(changes, key=order_key)
