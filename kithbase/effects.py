"""Which acts have an effect on the cells of a space."""

from kithbase.cells import has_kind
from kithbase.making import holds_writes, is_known
from kithbase.undo import is_closed_for, knows


def is_cell(ground, row, column):
    """True if the row and the column belong to the same table."""
    return row in ground.rows and column in ground.columns and ground.rows[row] == ground.columns[column]


def _is_for_cell(ground, spot, row, column):
    """True if the row and the column make a cell, and the act with the spot knows both."""
    return is_cell(ground, row, column) and is_known(ground, spot, row) and is_known(ground, spot, column)


def writes_by_cell(ground, seals):
    """Returns a dict with the list of the spots of the writes that have an effect on each cell."""
    writes = {}
    for spot, act in ground.acts:
        if act[0] in ("put", "refer") and _is_for_cell(ground, spot, act[1], act[2]):
            if _write_has_effect(ground, seals, spot, act):
                writes.setdefault((act[1], act[2]), []).append(spot)
    return writes


def _write_has_effect(ground, seals, spot, act):
    """True if a write into a cell that it knows has an effect on it."""
    column, written = act[2], act[3]
    if spot in ground.kept:
        return holds_writes(ground, column)
    holds = ground.act[column][3]
    if act[0] == "put":
        return has_kind(holds, written)
    return isinstance(holds, tuple) and (written is None or _may_refer(ground, seals, spot, holds[1], written))


def _may_refer(ground, seals, spot, table, target):
    """True if the act with the spot may refer to the target as a row of the table."""
    if target not in ground.rows or ground.rows[target] != table or not knows(ground.store, spot, target):
        return False
    change = ground.store.find(spot[:2])
    return not any(is_closed_for(ground.store, seals, change, drop[:2]) for drop in ground.drops.get(target, []))


def adds_by_cell(ground):
    """Returns a dict with the list of the spots of the acts that add to each cell."""
    adds = {}
    for spot, act in ground.acts:
        if act[0] == "add" and _is_for_cell(ground, spot, act[1], act[2]):
            adds.setdefault((act[1], act[2]), []).append(spot)
    return adds


def sums_by_cell(ground, adds, kept):
    """Returns a dict with the sum of each counter to which something was added, or of which a sum is kept."""
    sums = {cell: total for cell, total in kept}
    for cell in adds:
        sums[cell] = sums.get(cell, 0) + sum([ground.act[spot][3] for spot in adds[cell]])
    return sums
