"""Capabilities, and which changes are allowed."""

from kithbase.changes import in_order, in_past
from kithbase.store import SPACES

ALL_RIGHTS = ((True, True, True), (True, True, True), (True, True, True), (True, True, True))


def capability_info(store, capability):
    """Returns (parent, holder, rights) of a capability that is there, otherwise None."""
    if capability is None:
        return (None, 0, ALL_RIGHTS)
    if not path_of(store, capability):
        return None
    return _told_of(store, capability)


def is_above(store, first, second):
    """True if both capabilities are there and the first one is above the second one."""
    return first in path_of(store, second)


def path_of(store, capability):
    """Returns the list of the capabilities from this one to the top; it is empty if this one is not there."""
    path = {}
    there = False
    # Grants can name each other in a circle, which leads to no top.
    while capability is not None and capability not in path:
        told = _told_of(store, capability)
        if told is None:
            break
        there = there or is_kept(store, capability)
        path[capability] = True
        capability = told[0]
    if there or capability is None:
        return list(path) + [None]
    return []


def is_kept(store, capability):
    """True if the capability is one of those that are kept."""
    return any(entry[0] == capability for entry in store.capabilities)


def _told_of(store, capability):
    """Returns (parent, holder, rights) as they are kept or granted, wherever the chain of parents leads."""
    for kept, parent, holder, rights in store.capabilities:
        if kept == capability:
            return (parent, holder, rights)
    author, number, place = capability
    change = store.find((author, number))
    if change is None or not 0 <= place < len(change.publics):
        return None
    act = change.publics[place]
    if act[0] != "grant":
        return None
    return (change.capability, act[1], act[2])


def is_fit(store, change):
    """True if the change is fit."""
    info = capability_info(store, change.capability)
    if info is None or info[1] != change.author:
        return False
    if not heard_the_cut(store, change) or not _is_from_before(store, change.capability, change):
        return False
    for act in change.publics:
        if act[0] == "grant" and not _may_grant(info[2], act[2]):
            return False
        if act[0] == "seal" and change.capability is not None:
            return False
    return True


def heard_the_cut(store, change):
    """True if the change had heard everything that is cut away."""
    return all([many >= gone for many, gone in zip(change.heard, store.cut)])


def _is_from_before(store, capability, change):
    """True if the capability needs no grant in the store, or its grant is in the past of the change."""
    return capability is None or is_kept(store, capability) or in_past(capability[:2], change)


def _may_grant(own, given):
    """True if a capability with the rights `own` may pass on the rights `given`."""
    return all([_may_grant_space(mine, theirs) for mine, theirs in zip(own, given)])


def _may_grant_space(own, given):
    """True if the rights `given` for one space are among the rights `own` that may be passed on."""
    may_give = own[2]
    return all([not asked or (had and may_give) for had, asked in zip(own, given)])


def revoked_by(store, change):
    """Returns the list of the capabilities that the change revokes effectively."""
    revoked = []
    for act in change.publics:
        if act[0] == "revoke" and act[1] not in revoked and _may_revoke(store, change, act[1]):
            revoked.append(act[1])
    return revoked


def _may_revoke(store, change, capability):
    """True if a revocation of the capability in the change is effective."""
    if capability == change.capability or not is_above(store, change.capability, capability):
        return False
    return _is_from_before(store, capability, change)


def verdicts(store):
    """Returns a dict that tells for the name of each change in the store whether it is allowed."""
    changes = store.all_changes()
    fit = [change for change in changes if is_fit(store, change)]
    # The founder makes all seals, each one after the other, so fitness alone decides about them.
    seals = [change for change in fit if has_seal(change)]
    allowed = {change.name(): False for change in changes}
    revokers = {}
    # Who revokes a capability holds one further up, so it is decided about before it is asked for.
    for change in _by_depth(store, fit):
        granted = _grant_is_allowed(store, allowed, change.capability)
        if granted and is_sealed_in(seals, change) and _is_before_all(store, revokers, change):
            allowed[change.name()] = True
            for capability in revoked_by(store, change):
                revokers.setdefault(capability, []).append(change)
    return allowed


def _by_depth(store, changes):
    """Returns the list of the changes, those with a capability nearer to the top first."""
    depths = [len(path_of(store, change.capability)) for change in changes]
    order = sorted(range(len(changes)), key=lambda at: depths[at])
    return [changes[k] for k in order]


def _grant_is_allowed(store, allowed, capability):
    """True if the change that granted the capability is allowed, or none is needed."""
    if capability is None or is_kept(store, capability):
        return True
    return allowed.get(capability[:2], False)


def _is_before_all(store, revokers, change):
    """True if the change is in the past of all that revoke its capability or one above it."""
    for capability in path_of(store, change.capability):
        for revoker in revokers.get(capability, []):
            if not in_past(change.name(), revoker):
                return False
    return True


def is_sealed_in(seals, change):
    """True if the change is, for each of the seals, that seal or related to it."""
    return all(_is_related(seal, change) for seal in seals)


def _is_related(first, second):
    """True if both are the same change or one of them is in the past of the other."""
    if first.name() == second.name():
        return True
    return in_past(first.name(), second) or in_past(second.name(), first)


def is_held(store, allowed, capability):
    """True if the capability is held."""
    return _is_still_held(store, allowed, _revoked(store, allowed), capability)


def _is_still_held(store, allowed, revoked, capability):
    """True if the capability is held, where the dict `revoked` has all that is revoked."""
    path = path_of(store, capability)
    if not path or not _grant_is_allowed(store, allowed, capability):
        return False
    return not any(above in revoked for above in path)


def _revoked(store, allowed):
    """Returns a dict with the capabilities that an allowed change revokes effectively."""
    revoked = {}
    for changes in store.changes:
        for change in changes:
            if allowed.get(change.name(), False):
                for capability in revoked_by(store, change):
                    revoked[capability] = True
    return revoked


def may_read(store, allowed, member, space):
    """True if the member may read the space."""
    return readable_spaces(store, allowed, member)[space]


def readable_spaces(store, allowed, member):
    """Returns a list that tells for each space whether the member may read it."""
    readable = [member == 0] * SPACES
    if member != 0:
        for capability in held_capabilities(store, allowed):
            parent, holder, rights = _told_of(store, capability)
            if holder == member:
                readable = [may or triple[0] for may, triple in zip(readable, rights)]
    return readable


def held_capabilities(store, allowed):
    """Returns the list of all capabilities but None that are held."""
    revoked = _revoked(store, allowed)
    return [capability for capability in _capabilities_of(store)
            if _is_still_held(store, allowed, revoked, capability)]


def _capabilities_of(store):
    """Returns the list of all capabilities but None that are kept or granted by a change in the store."""
    found = [entry[0] for entry in store.capabilities]
    for change in store.all_changes():
        for place, act in enumerate(change.publics):
            if act[0] == "grant":
                found.append((change.author, change.number, place))
    return found


def counts_in(store, allowed, change, space):
    """True if the change counts in the space."""
    if not allowed.get(change.name(), False):
        return False
    info = capability_info(store, change.capability)
    return info is not None and info[2][space][1]


def has_seal(change):
    """True if the change has a seal."""
    return any(act[0] == "seal" for act in change.publics)


def allowed_seals(store, allowed):
    """Returns the list of the allowed changes with a seal, in their order."""
    changes = [change for line in store.changes for change in line if has_seal(change)]
    return in_order([change for change in changes if allowed.get(change.name(), False)])
