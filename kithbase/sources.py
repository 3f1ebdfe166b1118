"""The tables of spaces as questions see them."""

from kithbase.naming import format_name
from kithbase.rights import verdicts
from kithbase.sheets import Sheet
from kithbase.store import SPACES
from kithbase.yielding import column_holders, reasons, table_holders

KINDS = {"integer": "integer", "counter": "integer", "boolean": "boolean", "text": "text", "letters": "text"}


class Source:
    """A table as questions see it."""

    def __init__(self, name, columns, kinds, rows):
        self.name = name
        self.columns = list(columns)
        self.kinds = list(kinds)
        self.rows = [tuple(row) for row in rows]


def sources(store, allowed, space):
    """Returns the list of the sources of a space, in the order of their tables."""
    sheet = Sheet(store, allowed, space)
    hidden = reasons(sheet)
    holders = table_holders(sheet)
    return [_source_of(sheet, hidden, f"s{space}_{name}", holders[name]) for name in holders]


def all_sources(store):
    """Returns a dict with the source for each name, over all spaces."""
    allowed = verdicts(store)
    found = [source for space in range(SPACES) for source in sources(store, allowed, space)]
    return {source.name: source for source in found}


def _source_of(sheet, hidden, name, table):
    """Returns the source with the name of a table that holds its name, where `hidden` has the rows not to show."""
    holders = column_holders(sheet, table)
    columns = [holders[word] for word in holders]
    kinds = [_kind_of_column(sheet.holds(column)) for column in columns]
    rows = [_row_of(sheet, columns, row) for row in sheet.live[table] if row not in hidden]
    return Source(name, ["id"] + list(holders), ["text"] + kinds, rows)


def _kind_of_column(holds):
    """Returns the kind of the values of a column that holds this."""
    # What is no word is a reference, which questions see in its written form.
    return "text" if isinstance(holds, tuple) else KINDS[holds]


def _row_of(sheet, columns, row):
    """Returns the tuple of the values of a row."""
    entries = [sheet.entry(row, column) for column in columns]
    return tuple([format_name(row)] + [format_name(entry) if isinstance(entry, tuple) else entry for entry in entries])
