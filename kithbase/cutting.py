"""Cutting the past away at a seal, and what is kept of it."""

from kithbase.letters import Lettering, characters_in
from kithbase.rights import allowed_seals, capability_info, held_capabilities, verdicts
from kithbase.sheets import Sheet
from kithbase.store import SPACES, Kept


def last_seal(store):
    """Returns the last allowed change with a seal in the store, or None."""
    seals = allowed_seals(store, verdicts(store))
    return seals[-1] if seals else None


def before_seal(store, seal):
    """Returns a new store with only those of the changes that would be cut away at the seal."""
    return up_to(store, _cut_of(seal))


def up_to(store, cut):
    """Returns a new store with only those of the changes that are cut away by this list of numbers."""
    before = store.copy()
    for member in range(store.members):
        before.changes[member] = [change for change in before.changes[member] if change.number <= cut[member]]
    return before


def _cut_of(seal):
    """Returns the list of the numbers of changes that are cut away at the seal."""
    cut = list(seal.heard)
    cut[seal.author] = seal.number
    return cut


def kept_capabilities(store):
    """Returns the list of what is kept of capabilities, where all changes in the store are to be cut away."""
    held = held_capabilities(store, verdicts(store))
    return [(capability,) + capability_info(store, capability) for capability in sorted(held)]


def kept_of(store, space):
    """Returns the Kept of a space, where all changes in the store are to be cut away, or None if it is not known."""
    if not is_known(store, space):
        return None
    allowed = verdicts(store)
    sheet = Sheet(store, allowed, space)
    spots = sorted(_made(sheet) + _shown_writes(sheet), key=lambda spot: sheet.place[spot])
    acts = [(spot, sheet.act_of(spot)) for spot in spots]
    return Kept(acts, _sums(sheet), _texts(sheet, Lettering(store, allowed, space)))


def _made(sheet):
    """Returns the list of the spots of the tables, columns, rules and live rows."""
    spots = list(sheet.tables)
    for table in sheet.tables:
        spots.extend(sheet.columns[table] + sheet.rule_spots[table] + sheet.live[table])
    return spots


def _live_cells(sheet):
    """Returns the list of the pairs (row, column) of the cells of live rows."""
    return [(row, column) for table in sheet.tables for row in sheet.live[table] for column in sheet.columns[table]]


def _shown_writes(sheet):
    """Returns the list of the spots of the writes that show in cells of live rows."""
    return [spot for row, column in _live_cells(sheet) for spot in sheet.shown_spots(row, column)]


def _sums(sheet):
    """Returns the list of pairs (cell, total) of the counters that are not 0."""
    counters = [cell for cell in _live_cells(sheet) if sheet.holds(cell[1]) == "counter"]
    return [((row, column), sheet.entry(row, column)) for row, column in counters if sheet.entry(row, column) != 0]


def _texts(sheet, lettering):
    """Returns the list of pairs (cell, characters) of the cells with letters in which a character shows."""
    texts = []
    for row, column in _live_cells(sheet):
        if sheet.holds(column) == "letters":
            triples = characters_in(lettering, row, column)
            shown = [(mark, character) for mark, character, shows in triples if shows]
            if shown:
                texts.append(((row, column), shown))
    return texts


def cut_at(store, seal):
    """Returns the store after the past has been cut away at an allowed seal."""
    before = before_seal(store, seal)
    after = store.copy()
    after.cut = before.counts()
    after.capabilities = kept_capabilities(before)
    after.kept = [kept_of(before, space) for space in range(SPACES)]
    for member in range(store.members):
        after.changes[member] = after.changes[member][len(before.changes[member]):]
    return after


def is_known(store, space):
    """True if the space is fully known."""
    if store.kept[space] is None:
        return False
    return not any([change.parts[space] is None for line in store.changes for change in line])


def is_known_to(store, space, seal):
    """True if the space is known up to the seal."""
    return is_known(before_seal(store, seal), space)
