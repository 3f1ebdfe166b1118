"""Which rows of a space show, why others do not, and what is in conflict."""


def reasons(sheet):
    """Returns a dict with the reason of each live row that does not show, in the order of the rows."""
    references = {row: _references(sheet, row) for row in _rows_in_order(sheet)}
    yielding = _yielding(sheet)
    hidden = _hidden(sheet, references, yielding)
    found = {}
    for row in references:
        if row in yielding:
            found[row] = yielding[row]
        elif row in hidden:
            found[row] = _failing(sheet, references, hidden, row)
    return found


def showing(sheet, table):
    """Returns the list of the rows of the table that show."""
    hidden = reasons(sheet)
    return [row for row in sheet.live[table] if row not in hidden]


def conflicts(sheet):
    """Returns the lists of names that are not held, of rows that do not show, and of cells with several values."""
    found = reasons(sheet)
    return (_names_not_held(sheet), [(row,) + found[row] for row in found], _cells_with_several(sheet))


def table_holders(sheet):
    """Returns a dict with the table that holds each name."""
    holders = {}
    for table in sheet.tables:
        holders.setdefault(sheet.act_of(table)[1], table)
    return holders


def column_holders(sheet, table):
    """Returns a dict with the column of the table that holds each name, in the order of the columns."""
    holders = {}
    for column in sheet.columns[table]:
        name = sheet.act_of(column)[2]
        if name != "id":
            holders.setdefault(name, column)
    return holders


def _rows_in_order(sheet):
    """Returns the list of the live rows of all tables, in the order of the effective acts."""
    rows = [row for table in sheet.tables for row in sheet.live[table]]
    return sorted(rows, key=lambda row: sheet.place[row])


def _yielding(sheet):
    """Returns a dict with the reason of each row that yields."""
    found = {}
    for table in sheet.tables:
        for rule, columns in enumerate(sheet.rules[table]):
            holders = _holders_of_others(sheet, table, columns)
            for row in holders:
                found.setdefault(row, ("yields", rule, holders[row]))
    return found


def _holders_of_others(sheet, table, columns):
    """Returns a dict with the row that holds its key by the rule for each row of the table that does not."""
    first = {}
    holders = {}
    for row in sheet.live[table]:
        key = _key_of(sheet, row, columns)
        if key is not None and first.setdefault(key, row) != row:
            holders[row] = first[key]
    return holders


def _key_of(sheet, row, columns):
    """Returns what rows with equal entries in the columns have in common, or None if an entry is None."""
    entries = [sheet.entry(row, column) for column in columns]
    if any(entry is None for entry in entries):
        return None
    # True and 1 are equal in Python, but they are not equal entries.
    return tuple([(isinstance(entry, bool), entry) for entry in entries])


def _references(sheet, row):
    """Returns the list of pairs (column, target) of the references of the row that count."""
    pairs = []
    for column in sheet.columns[sheet.table_of(row)]:
        if isinstance(sheet.holds(column), tuple):
            target = sheet.entry(row, column)
            if target is not None:
                pairs.append((column, target))
    return pairs


def _hidden(sheet, references, yielding):
    """Returns a dict with True for each row that does not show."""
    hidden = {row: True for row in yielding}
    referring = {}
    for row in references:
        for column, target in references[row]:
            if _is_live_there(sheet, references, column, target):
                referring.setdefault(target, []).append(row)
            else:
                hidden[row] = True
    # Rows are hidden only for a reason that is found, so the rows of a circle show.
    rest = list(hidden)
    while rest:
        target = rest.pop()
        for row in referring.get(target, []):
            if row not in hidden:
                hidden[row] = True
                rest.append(row)
    return hidden


def _is_live_there(sheet, references, column, target):
    """True if the target is a live row of the table that the column tells; `references` has all live rows."""
    return target in references and sheet.table_of(target) == sheet.holds(column)[1]


def _failing(sheet, references, hidden, row):
    """Returns the reason of a row that does not yield and does not show."""
    for column, target in references[row]:
        if target in hidden or not _is_live_there(sheet, references, column, target):
            return ("refers", column, target)
    return None


def _names_not_held(sheet):
    """Returns the list of triples (spot, name, holder) of the tables and the columns that do not hold their names."""
    found = []
    holders = table_holders(sheet)
    for table in sheet.tables:
        name = sheet.act_of(table)[1]
        if holders[name] != table:
            found.append((table, name, holders[name]))
    for table in sheet.tables:
        holders = column_holders(sheet, table)
        for column in sheet.columns[table]:
            name = sheet.act_of(column)[2]
            if holders.get(name) != column:
                found.append((column, name, holders.get(name)))
    return found


def _cells_with_several(sheet):
    """Returns the list of triples (row, column, values) of the cells in which more than one write shows."""
    found = []
    for row in _rows_in_order(sheet):
        for column in sheet.columns[sheet.table_of(row)]:
            shown = sheet.shown(row, column)
            if len(shown) > 1:
                found.append((row, column, tuple(shown)))
    return found
