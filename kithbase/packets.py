"""Packets: what replicas ask each other for, and what they give."""

from kithbase.changes import frozen
from kithbase.codes import write_boolean, write_capability, write_change, write_kept, write_list, write_number
from kithbase.codes import write_numbers, write_optional
from kithbase.cutting import kept_of, up_to
from kithbase.errors import DamagedPacket, UnfitPacket
from kithbase.reading import Reader, next_boolean, next_capability, next_change, next_kept, next_list, next_name
from kithbase.reading import next_number, next_optional
from kithbase.rights import readable_spaces, verdicts
from kithbase.spaces import alike, changes_agree, joined_change, kept_agrees
from kithbase.store import SPACES, is_cut_away, is_whole

ASKS = 1
GIVES = 2


class Asking:
    """What a packet that asks tells."""

    def __init__(self, member, cut, numbers, known, unknown):
        self.member = member
        self.cut = cut
        # The number of changes of each member.
        self.numbers = numbers
        # For each space whether what is kept of it is known, and a dict with the names of the changes whose part of the
        # space is not known.
        self.known = known
        self.unknown = unknown


class Giving:
    """What a packet that gives tells."""

    def __init__(self, cut, capabilities, kept, changes):
        self.cut = cut
        self.capabilities = capabilities
        self.kept = kept
        self.changes = changes


def asking(store, member):
    """Returns the packet that asks for what the store of the member does not have."""
    data = write_numbers((ASKS, member)) + write_list(store.cut, write_number)
    data.extend(write_list(store.counts(), write_number))
    for kept in store.kept:
        data.extend(write_boolean(kept is not None))
    for space in range(SPACES):
        data.extend(write_list(_unknown_names(store, space), write_numbers))
    return data


def _unknown_names(store, space):
    """Returns the list of the names of the changes whose part of the space is not known."""
    return [change.name() for line in store.changes for change in line if change.parts[space] is None]


def giving(store, packet):
    """Returns the packet that gives, out of the store, what a packet asks for."""
    asked = _asked(store, packet)
    readable = readable_spaces(store, verdicts(store), asked.member)
    data = [GIVES] + write_list(store.cut, write_number) + write_list(store.capabilities, write_capability)
    for space in range(SPACES):
        wanted = asked.cut[0] < store.cut[0] or not asked.known[space]
        data.extend(write_optional(store.kept[space] if readable[space] and wanted else None, write_kept))
    return data + write_list(_changes_to_give(store, asked, readable), write_change)


def _asked(store, packet):
    """Returns what a packet that asks tells; it must come from a member of the network of the store."""
    reader = Reader(packet)
    if next_number(reader) != ASKS:
        raise DamagedPacket("this packet does not ask")
    member = next_number(reader)
    cut = next_list(reader, next_number)
    numbers = next_list(reader, next_number)
    known = [next_boolean(reader) for space in range(SPACES)]
    names = [next_list(reader, next_name) for space in range(SPACES)]
    reader.end()
    if member >= store.members or len(cut) != store.members or len(numbers) != store.members:
        raise DamagedPacket("this packet comes from another network")
    unknown = [{name: True for name in listed} for listed in names]
    return Asking(member, cut, numbers, known, unknown)


def _changes_to_give(store, asked, readable):
    """Returns the list of the changes to give, with only the parts to give."""
    changes = []
    for author, line in enumerate(store.changes):
        for change in line:
            wanted = list(readable)
            if change.number <= asked.numbers[author]:
                wanted = [may and change.name() in names for may, names in zip(readable, asked.unknown)]
            parts = [part if wish else None for part, wish in zip(change.parts, wanted)]
            if change.number > asked.numbers[author] or parts != [None] * SPACES:
                changes.append(change.with_parts(parts))
    return changes


def taking(store, packet):
    """Returns the new store after taking a packet that gives."""
    given = _given(packet)
    taken = _with_cut(store, given)
    for change in given.changes:
        _take_change(taken, change)
    if not is_whole(taken):
        raise UnfitPacket("the packet has changes that had heard of others which are not there")
    return taken


def _given(packet):
    """Returns what a packet that gives tells."""
    reader = Reader(packet)
    if next_number(reader) != GIVES:
        raise DamagedPacket("this packet does not give")
    cut = next_list(reader, next_number)
    capabilities = next_list(reader, next_capability)
    kept = [next_optional(reader, next_kept) for space in range(SPACES)]
    changes = next_list(reader, next_change)
    reader.end()
    return Giving(cut, capabilities, kept, changes)


def _with_cut(store, given):
    """Returns a new store: the store with the cut of the packet and what is kept, as far as they count for it."""
    if len(given.cut) != store.members:
        raise UnfitPacket("the packet comes from a network of another size")
    if given.cut[0] > store.cut[0]:
        return _with_later_cut(store, given)
    if given.cut[0] == store.cut[0]:
        return _with_same_cut(store, given)
    return store.copy()


def _with_same_cut(store, given):
    """Returns a new store: the store with what is kept of spaces by a packet that has the same cut."""
    if given.cut != store.cut or not alike(frozen(given.capabilities), frozen(store.capabilities)):
        raise UnfitPacket("the packet has another cut, or keeps other capabilities")
    if not all([kept_agrees(own, other) for own, other in zip(store.kept, given.kept)]):
        raise UnfitPacket("the packet keeps something else of a space")
    taken = store.copy()
    taken.kept = [other if own is None else own for own, other in zip(taken.kept, given.kept)]
    return taken


def _with_later_cut(store, given):
    """Returns a new store: the store with the cut of the packet, which is later."""
    if any([many < own for many, own in zip(given.cut, store.cut)]):
        raise UnfitPacket("the packet has a later cut that keeps more of some member")
    before = up_to(store, given.cut)
    taken = store.copy()
    taken.cut = list(given.cut)
    taken.capabilities = list(given.capabilities)
    taken.kept = list(given.kept)
    if before.counts() == given.cut:
        taken.kept = [kept_of(before, space) if kept is None else kept for space, kept in enumerate(given.kept)]
    for member in range(store.members):
        taken.changes[member] = [change for change in taken.changes[member] if change.number > given.cut[member]]
    return taken


def _take_change(taken, change):
    """Takes a change of a packet. This modifies the store."""
    author, number = change.name()
    if author >= taken.members or number < 1:
        raise UnfitPacket("the packet has a change that nobody can have made")
    if is_cut_away(taken, change.name()):
        return
    own = taken.find(change.name())
    if own is None:
        if number != taken.count(author) + 1:
            raise UnfitPacket("the packet has a change and not the one before it")
        taken.add(change)
        return
    if not changes_agree(own, change):
        raise UnfitPacket("the packet has another change of the same name")
    taken.changes[author][number - taken.cut[author] - 1] = joined_change(own, change)
