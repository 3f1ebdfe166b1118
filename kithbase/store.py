"""Stores: what a replica knows."""

from kithbase.changes import frozen, in_order

SPACES = 4


class Kept:
    """What is kept of a space where the past is cut away."""

    def __init__(self, acts, sums, texts):
        self.acts = [frozen(pair) for pair in acts]
        self.sums = [frozen(pair) for pair in sums]
        self.texts = [(frozen(cell), [frozen(pair) for pair in characters]) for cell, characters in texts]

    def data(self):
        """Returns the three lists as nested tuples."""
        return (frozen(self.acts), frozen(self.sums), frozen(self.texts))


class Store:
    """The changes that are known, and what is kept of those that are cut away."""

    def __init__(self, members):
        self.members = members
        self.cut = [0] * members
        self.capabilities = []
        self.kept = [Kept([], [], []) for space in range(SPACES)]
        self.changes = [[] for member in range(members)]

    def count(self, member):
        """Returns the number of changes of a member, cut away ones included."""
        return self.cut[member] + len(self.changes[member])

    def counts(self):
        """Returns the list of the numbers of changes of all members."""
        return [self.count(member) for member in range(self.members)]

    def find(self, name):
        """Returns the change with this name, or None if it is not in the store."""
        author, number = name
        if not self.has(name) or number <= self.cut[author]:
            return None
        return self.changes[author][number - self.cut[author] - 1]

    def has(self, name):
        """True if the change with this name is in the store or cut away."""
        author, number = name
        return 0 <= author < self.members and 1 <= number <= self.count(author)

    def all_changes(self):
        """Returns a list of all changes in the store, in their order."""
        return in_order([change for changes in self.changes for change in changes])

    def add(self, change):
        """Appends the change to the list of its author, without a check."""
        self.changes[change.author].append(change)

    def copy(self):
        """Returns a copy that shares nothing that can be modified."""
        other = Store(self.members)
        other.cut = list(self.cut)
        other.capabilities = [frozen(entry) for entry in self.capabilities]
        other.kept = [_copy_of_kept(kept) for kept in self.kept]
        other.changes = [[_copy_of_change(change) for change in changes] for changes in self.changes]
        return other

    def data(self):
        """Returns all that the store has as nested tuples."""
        kept = tuple([None if kept is None else kept.data() for kept in self.kept])
        changes = [[change.header() + (change.parts,) for change in changes] for changes in self.changes]
        return (tuple(self.cut), frozen(self.capabilities), kept, frozen(changes))


def _copy_of_kept(kept):
    """Returns a Kept that shares no list with `kept`, or None for None."""
    if kept is None:
        return None
    return Kept(kept.acts, kept.sums, kept.texts)


def _copy_of_change(change):
    """Returns a change that is another object with the same attributes."""
    return change.with_parts(change.parts)


def with_next(store, change):
    """Returns a new store with one more change, which shares all the others with the store."""
    other = Store(store.members)
    other.cut = list(store.cut)
    other.capabilities = list(store.capabilities)
    other.kept = list(store.kept)
    other.changes = [list(line) for line in store.changes]
    other.add(change)
    return other


def is_cut_away(store, name):
    """True if the change with this name is cut away."""
    author, number = name
    return 0 <= author < store.members and 1 <= number <= store.cut[author]


def is_whole(store):
    """True if the store is whole: everything that its changes had heard of is there."""
    return all(goes_on(store, change) for line in store.changes for change in line)


def goes_on(store, change):
    """True if what the change had heard fits its own number and the other changes of the store."""
    if len(change.heard) != store.members or change.heard[change.author] != change.number - 1:
        return False
    for member in range(store.members):
        if change.heard[member] > store.count(member):
            return False
        last = store.find((member, change.heard[member]))
        if last is not None and _heard_more(last, change):
            return False
    return True


def _heard_more(first, second):
    """True if the first change had heard more changes of some member than the second one."""
    return any([many > others for many, others in zip(first.heard, second.heard)])
