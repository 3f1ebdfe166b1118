"""Which tables, columns, rules and rows the effective acts of a space make."""

from kithbase.undo import effective_acts, knows


class Ground:
    """The effective acts of a space, and the columns and rows that they make."""

    def __init__(self, store, allowed, space):
        self.store = store
        self.acts = effective_acts(store, allowed, space)
        self.act = {spot: act for spot, act in self.acts}
        self.kept = _kept_spots(store, space)
        self.tables = [spot for spot, act in self.acts if act[0] == "table"]
        self.columns = _parts_of_tables(self, "column")
        self.rows = _parts_of_tables(self, "row")
        self.drops = _drops_by_row(self)


def _kept_spots(store, space):
    """Returns a dict with the spots of the kept acts."""
    kept = store.kept[space]
    return {} if kept is None else {spot: True for spot, act in kept.acts}


def is_known(ground, spot, named):
    """True if the effective act with the spot knows the table, column or row that it names."""
    return spot in ground.kept or knows(ground.store, spot, named)


def _parts_of_tables(ground, word):
    """Returns a dict with the table of each column or each row, in the order of the acts that make them."""
    parts = {}
    for spot, act in ground.acts:
        if act[0] == word and _is_table(ground, act[1]) and is_known(ground, spot, act[1]):
            parts[spot] = act[1]
    return parts


def _is_table(ground, spot):
    """True if the spot is that of a table."""
    return spot in ground.act and ground.act[spot][0] == "table"


def _drops_by_row(ground):
    """Returns a dict with the list of the spots of the acts that drop a row and know it."""
    drops = {}
    for spot, act in ground.acts:
        if act[0] == "drop" and act[1] in ground.rows and is_known(ground, spot, act[1]):
            drops.setdefault(act[1], []).append(spot)
    return drops


def by_table(ground, parts):
    """Returns a dict with the list of the spots for each table, where the dict `parts` has the table of each."""
    found = {table: [] for table in ground.tables}
    for spot in parts:
        found[parts[spot]].append(spot)
    return found


def live_rows(ground):
    """Returns a dict with the table of each live row, in the order of the acts that make them."""
    return {row: table for row, table in ground.rows.items() if row not in ground.drops}


def rules_made(ground):
    """Returns a dict with the table of each unique rule, in the order of the acts that make them."""
    return {spot: act[1] for spot, act in ground.acts if act[0] == "unique" and _is_rule(ground, spot, act)}


def _is_rule(ground, spot, act):
    """True if the act makes a unique rule."""
    table, columns = act[1], act[2]
    if not columns or not _is_table(ground, table) or not is_known(ground, spot, table):
        return False
    return all(_may_be_unique(ground, spot, table, column) for column in columns)


def _may_be_unique(ground, spot, table, column):
    """True if the column may stand in a rule of the table that the act with the spot makes."""
    if ground.columns.get(column) != table or not is_known(ground, spot, column):
        return False
    return holds_writes(ground, column)


def holds_writes(ground, column):
    """True if the column holds values or references, not a counter and not letters."""
    return ground.act[column][3] not in ("counter", "letters")
