"""What the tests make stores of."""

from kithbase.changes import Change
from kithbase.rights import verdicts
from kithbase.sheets import Sheet
from kithbase.store import Store

NONE = (False, False, False)
READ = (True, False, False)
WRITE = (False, True, False)
BOTH = (True, True, False)
ALL = (True, True, True)
EVERYTHING = (ALL, ALL, ALL, ALL)
NOTHING = (NONE, NONE, NONE, NONE)
SEAL = ("seal",)


def grant(member, rights=EVERYTHING):
    return ("grant", member, rights)


def revoke(capability):
    return ("revoke", capability)


def make(store, author, acts=(), heard=None, capability=None, publics=(), parts=None):
    """Adds the next change of the author, who had heard everything unless it is told otherwise.

    The acts are those of space 0, unless all parts are given.
    """
    heard = list(store.counts() if heard is None else heard)
    number = store.count(author) + 1
    heard[author] = number - 1
    parts = [acts, (), (), ()] if parts is None else parts
    change = Change(author, number, heard, capability, publics, parts)
    store.add(change)
    return change


def group(members, rights=EVERYTHING):
    """Returns a store in which the founder has granted each other member a capability.

    The capability of member m is (0, 1, m - 1).
    """
    store = Store(members)
    make(store, 0, publics=[grant(member, rights) for member in range(1, members)])
    return store


def own(member):
    """Returns the capability that `group` gives to the member."""
    return None if member == 0 else (0, 1, member - 1)


def say(store, author, acts=(), heard=None, publics=()):
    """Adds a change that the author makes with the capability of `group`."""
    return make(store, author, acts, heard, own(author), publics)


def sheet_of(store, space=0):
    return Sheet(store, verdicts(store), space)


def allowed_names(store):
    allowed = verdicts(store)
    return sorted(name for name in allowed if allowed[name])
