"""What acts know, and which acts are effective."""

from kithbase.changes import in_past
from kithbase.rights import allowed_seals, counts_in
from kithbase.store import is_cut_away


def knows(store, spot, other):
    """True if the act with the spot `spot` knows the act with the spot `other`."""
    change = store.find(spot[:2])
    if change is None:
        return False
    if spot[:2] == other[:2]:
        return other[2] < spot[2]
    return is_cut_away(store, other[:2]) or in_past(other[:2], change)


def is_closed(store, allowed, spot, name):
    """True if the change called `name` is closed for the act with the spot `spot`."""
    return is_closed_for(store, allowed_seals(store, allowed), store.find(spot[:2]), name)


def is_closed_for(store, seals, change, name):
    """True if the change called `name` is closed for the acts of `change`, where `seals` are the allowed seals."""
    if is_cut_away(store, name):
        return True
    return change is not None and any(_closes(seal, change, name) for seal in seals)


def _closes(seal, change, name):
    """True if the seal is in the past of the change, and the change called `name` is not after the seal."""
    return in_past(seal.name(), change) and (seal.name() == name or in_past(name, seal))


def undone_by(store, allowed, change, space):
    """Returns the list of the names of the changes that the change undoes in the space."""
    return _undone_past(store, allowed_seals(store, allowed), change, space)


def _undone_past(store, seals, change, space):
    """Returns the list of the names that the change undoes, where `seals` has all allowed seals."""
    names = []
    for spot, act in spots_and_acts(change, space):
        if act[0] == "undo" and act[1] not in names and in_past(act[1], change):
            if not is_closed_for(store, seals, change, act[1]):
                names.append(act[1])
    return names


def taking_effect(store, allowed, space):
    """Returns a dict that tells for the name of each change in the store whether it takes effect."""
    changes = store.all_changes()
    seals = allowed_seals(store, allowed)
    takes = {change.name(): False for change in changes}
    undone = {}
    # A change is undone by later ones only, so the last one is decided about first.
    for change in reversed(changes):
        if change.name() not in undone and counts_in(store, allowed, change, space):
            takes[change.name()] = True
            for name in _undone_past(store, seals, change, space):
                undone[name] = True
    return takes


def effective_acts(store, allowed, space):
    """Returns the list of pairs (spot, act) of the effective acts of the space."""
    takes = taking_effect(store, allowed, space)
    kept = store.kept[space]
    acts = [] if kept is None else list(kept.acts)
    for change in store.all_changes():
        if takes[change.name()]:
            acts.extend(spots_and_acts(change, space))
    return acts


def spots_and_acts(change, space):
    """Returns the list of pairs (spot, act) of the acts of the change; an unknown part has none."""
    acts = change.parts[space] or ()
    return [((change.author, change.number, place), act) for place, act in enumerate(acts)]
