"""What is shown of a store, stores that agree, and stores that are joined."""

from kithbase.changes import frozen
from kithbase.rights import readable_spaces, verdicts


def shown_to(store, member):
    """Returns a new store: what is shown of the store to the member."""
    readable = readable_spaces(store, verdicts(store), member)
    shown = store.copy()
    shown.kept = _only(shown.kept, readable)
    shown.changes = [[change.with_parts(_only(change.parts, readable)) for change in line] for line in shown.changes]
    return shown


def _only(things, readable):
    """Returns the list of the things of the spaces, with None for those that cannot be read."""
    return [thing if may else None for thing, may in zip(things, readable)]


def agree(first, second):
    """True if the two stores agree."""
    if first.members != second.members or not alike(frozen(first.cut), frozen(second.cut)):
        return False
    if not alike(frozen(first.capabilities), frozen(second.capabilities)):
        return False
    if not all([kept_agrees(kept, other) for kept, other in zip(first.kept, second.kept)]):
        return False
    for line, others in zip(first.changes, second.changes):
        for change, other in zip(line, others):
            if not changes_agree(change, other):
                return False
    return True


def alike(first, second):
    """True if two values, or tuples of such, are equal values of equal kinds."""
    if first != second:
        return False
    if isinstance(first, tuple):
        return all([alike(one, other) for one, other in zip(first, second)])
    # True and 1 are equal in Python, but a boolean is never equal to an integer here.
    return isinstance(first, bool) == isinstance(second, bool)


def kept_agrees(first, second):
    """True if what two stores keep of a space is equal, or one of them does not know it."""
    return first is None or second is None or alike(first.data(), second.data())


def changes_agree(first, second):
    """True if two changes have one header, and the parts that both have are equal."""
    if not alike(first.header(), second.header()):
        return False
    return all([one is None or other is None or alike(one, other) for one, other in zip(first.parts, second.parts)])


def joined(first, second):
    """Returns a new store: two stores that agree, joined."""
    both = first.copy()
    other = second.copy()
    both.kept = [_known_one(one, two) for one, two in zip(both.kept, other.kept)]
    both.changes = [_joined_lines(line, others) for line, others in zip(both.changes, other.changes)]
    return both


def _known_one(one, two):
    """Returns that one of two things which is known."""
    return two if one is None else one


def _joined_lines(line, others):
    """Returns the list of the changes of a member in two stores that are joined."""
    found = [joined_change(change, other) for change, other in zip(line, others)]
    return found + line[len(found):] + others[len(found):]


def joined_change(first, second):
    """Returns a new change with each part that one of two changes that agree has."""
    return first.with_parts([_known_one(one, two) for one, two in zip(first.parts, second.parts)])
