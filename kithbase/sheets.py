"""What the effective acts of a space make: tables, columns, rules, rows and the values of cells."""

from kithbase.cells import shown_writes
from kithbase.effects import adds_by_cell, is_cell, sums_by_cell, writes_by_cell
from kithbase.letters import Lettering, lettered_cells, text_in
from kithbase.making import Ground, by_table, live_rows, rules_made
from kithbase.rights import allowed_seals


class Sheet:
    """What the effective acts of a space make.

    All of it is found out when the sheet is made, so that no later change to the store has an effect on it.
    """

    def __init__(self, store, allowed, space):
        ground = Ground(store, allowed, space)
        rules = rules_made(ground)
        writes = writes_by_cell(ground, allowed_seals(store, allowed))
        self.acts = ground.acts
        self.place = {spot: place for place, (spot, act) in enumerate(ground.acts)}
        self.tables = ground.tables
        self.columns = by_table(ground, ground.columns)
        self.rule_spots = by_table(ground, rules)
        self.rules = {table: [ground.act[spot][2] for spot in self.rule_spots[table]] for table in ground.tables}
        self.live = by_table(ground, live_rows(ground))
        self._act = ground.act
        self._columns = ground.columns
        self._rows = ground.rows
        self._writes = writes
        self._shown = {cell: shown_writes(store, allowed, writes[cell]) for cell in writes}
        self._adds = adds_by_cell(ground)
        self._sums = sums_by_cell(ground, self._adds, _kept_sums(store, space))
        self._texts = _texts_by_cell(ground, Lettering(store, allowed, space))

    def act_of(self, spot):
        """Returns the effective act with this spot, or None."""
        return self._act.get(spot)

    def holds(self, column):
        """Returns what the column holds."""
        return self._act[column][3] if column in self._columns else None

    def table_of(self, spot):
        """Returns the table of a row or column, or None if the spot is not that of a row or column."""
        return self._rows.get(spot, self._columns.get(spot))

    def writes(self, row, column):
        """Returns the list of the spots of the writes that have an effect on the cell."""
        return list(self._writes.get((row, column), []))

    def shown(self, row, column):
        """Returns the list of the values, or references, that show in the cell."""
        return [self._act[spot][3] for spot in self.shown_spots(row, column)]

    def shown_spots(self, row, column):
        """Returns the list of the spots of the writes that show in the cell."""
        return list(self._shown.get((row, column), []))

    def counted(self, row, column):
        """Returns the spot of the write that counts, or None."""
        shown = self.shown_spots(row, column)
        return shown[-1] if shown else None

    def added(self, row, column):
        """Returns the list of the spots of the acts that add to the counter of the cell."""
        return list(self._adds.get((row, column), [])) if self.holds(column) == "counter" else []

    def entry(self, row, column):
        """Returns the value of the cell."""
        holds = self.holds(column)
        if holds == "counter":
            return self._sums.get((row, column), 0)
        if holds == "letters":
            return self._texts.get((row, column), "")
        counted = self.counted(row, column)
        return None if counted is None else self._act[counted][3]


def _kept_sums(store, space):
    """Returns the list of the kept sums of the space."""
    kept = store.kept[space]
    return [] if kept is None else kept.sums


def _texts_by_cell(ground, lettering):
    """Returns a dict with the string of each cell that may have characters."""
    cells = [(row, column) for row, column in lettered_cells(lettering) if is_cell(ground, row, column)]
    return {(row, column): text_in(lettering, row, column) for row, column in cells}
