"""On which changes a row of a table rests."""

from kithbase.changes import in_past
from kithbase.letters import Lettering, characters_in
from kithbase.naming import parse_spot
from kithbase.rights import allowed_seals, capability_info
from kithbase.sheets import Sheet
from kithbase.yielding import column_holders, table_holders


class Resting:
    """What is needed to tell on which changes rows rest, so that it is looked for only once for each space."""

    def __init__(self, store, allowed):
        self.store = store
        self.allowed = allowed
        self.seals = allowed_seals(store, allowed)
        self.sheets = {}
        self.letterings = {}


def changes_of_row(resting, source, row):
    """Returns the list of the names of the changes on which the row of a source with this `id` rests."""
    space = int(source[1])
    spot = parse_spot(row)
    sheet = _sheet(resting, space)
    table = table_holders(sheet)[source[3:]]
    names = [spot[:2], table[:2]]
    holders = column_holders(sheet, table)
    for name in holders:
        column = holders[name]
        names.append(column[:2])
        names.extend(_changes_of_cell(resting, space, spot, column))
    found = {}
    for name in names:
        found[name] = True
        for granting in _granting(resting, name):
            found[granting] = True
    return list(found)


def _sheet(resting, space):
    """Returns the sheet of the space, which is remembered in `resting`."""
    if space not in resting.sheets:
        resting.sheets[space] = Sheet(resting.store, resting.allowed, space)
    return resting.sheets[space]


def _lettering(resting, space):
    """Returns the lettering of the space, which is remembered in `resting`."""
    if space not in resting.letterings:
        resting.letterings[space] = Lettering(resting.store, resting.allowed, space)
    return resting.letterings[space]


def _changes_of_cell(resting, space, row, column):
    """Returns the list of the names of the changes of what counts in the cell."""
    sheet = _sheet(resting, space)
    holds = sheet.holds(column)
    if holds == "counter":
        return [spot[:2] for spot in sheet.added(row, column) if not _is_sealed(resting, spot[:2])]
    if holds == "letters":
        triples = characters_in(_lettering(resting, space), row, column)
        return [mark[:2] for mark, character, shows in triples if shows]
    counted = sheet.counted(row, column)
    return [] if counted is None else [counted[:2]]


def _is_sealed(resting, name):
    """True if the change with this name is an allowed seal, in the past of one, or cut away."""
    # What is kept can only come from changes that are cut away.
    if resting.store.find(name) is None:
        return True
    return any(seal.name() == name or in_past(name, seal) for seal in resting.seals)


def _granting(resting, name):
    """Returns the list of the names of the changes that follow on the one with this name, up to the top."""
    if _is_sealed(resting, name):
        return []
    names = []
    capability = resting.store.find(name).capability
    while capability is not None:
        names.append(capability[:2])
        info = capability_info(resting.store, capability)
        capability = None if info is None else info[0]
    return names
