"""Why a row stands in an answer, and on which changes a row of a table rests.

The entries of a query are made as its rows are (`kithbase/meaning.py`), but each row also carries its way: behind the
columns of a table or of a query in `from` stands one more, which has no name, so that no question can name it.
"""

from kithbase.errors import NoReason
from kithbase.formulas import constant, reading
from kithbase.kinds import check
from kithbase.meaning import function_of, join_of
from kithbase.resting import Resting, changes_of_row
from kithbase.scopes import Scope, Setting
from kithbase.trees import column_name, has_query, known_as, makes_groups
from kithbase.values import row_key


def entries(query, sources, parameters):
    """Returns the list of pairs (row, way) of a checked query."""
    if not _has_reasons(query):
        raise NoReason("no reasons are told for queries of this form")
    plan = QUERIES[query[0]]
    names, run = plan(Scope(Setting(sources, parameters), None, []), query)
    return [(row[:-1], row[-1]) for row in run({})]


def ways(tree, sources, parameters, row):
    """Checks the question, and returns the list of the ways of a row."""
    check(tree, sources, parameters)
    key = row_key(row)
    return [way for made, way in entries(tree[1], sources, parameters) if row_key(made) == key]


def rests_on(store, allowed, source, row):
    """Returns the list of the names of the changes on which a row of a source rests."""
    return changes_of_row(Resting(store, allowed), source, row)


def _has_reasons(query):
    """True if the query has one of the forms for which reasons are told."""
    if query[0] == "set":
        return query[1] in ("union", "union all") and _has_reasons(query[2]) and _has_reasons(query[3])
    _, distinct, items, sources, where, group, having = query
    if makes_groups(query) or (where is not None and has_query(where)):
        return False
    if any(has_query(expression) for expression, name in items or ()):
        return False
    return sources is None or _have_reasons(sources)


def _have_reasons(sources):
    """True if what stands in `from` has one of the forms for which reasons are told."""
    if sources[0] == "table":
        return True
    if sources[0] == "subquery":
        return _has_reasons(sources[1])
    if sources[4] or has_query(sources[3]):
        return False
    return _have_reasons(sources[1]) and _have_reasons(sources[2])


def _set(around, tree):
    """Returns the names of the columns of `union` or `union all`, and the function of its entries."""
    plan_first, plan_second = QUERIES[tree[2][0]], QUERIES[tree[3][0]]
    names, first = plan_first(around, tree[2])
    others, second = plan_second(around, tree[3])
    return (names, lambda current: first(current) + second(current))


def _select(around, tree):
    """Returns the names of the columns of a select, and the function of its entries."""
    _, distinct, items, sources, where, group, having = tree
    columns, source_rows = _from(around, sources)
    scope = Scope(around.setting, around, columns)
    holds = constant(True) if where is None else function_of(scope, where)
    unnamed = [index for index, column in enumerate(columns) if column[1] is None]
    names, shown = _list_of(scope, items)

    def run(current):
        """Returns the rows of the select, each with its way behind it."""
        given = source_rows(current)
        found = []
        for row in given:
            current[scope.depth] = row
            if holds(current) is True:
                values = [function(current) for function in shown]
                found.append(tuple(values) + (_one_way(row, unnamed),))
        return found

    return (names, run)


def _list_of(scope, items):
    """Returns the names of the columns in the list of a select, and the list of their functions."""
    names = []
    shown = []
    if items is None:
        for index, column in enumerate(scope.columns):
            if column[1] is not None:
                names.append(column[1])
                shown.append(reading(scope.depth, index))
    for expression, name in items or ():
        names.append(column_name(expression, name))
        shown.append(function_of(scope, expression))
    return (names, shown)


def _one_way(row, indexes):
    """Returns the way that is made of those in the row at the indexes, one after the other."""
    return tuple([pair for index in indexes for pair in row[index]])


def _from(around, tree):
    """Returns the columns of what stands in `from`, and the function of its entries."""
    if tree is None:
        return ([], constant([()]))
    plan = SOURCES[tree[0]]
    return plan(around, tree)


def _table(around, tree):
    """Returns the columns of a table, and the function of its entries."""
    source = around.setting.sources[tree[1]]
    known = known_as(tree)
    columns = [(known, name) for name in source.columns] + [(known, None)]
    return (columns, constant([row + (((source.name, row[0]),),) for row in source.rows]))


def _subquery(around, tree):
    """Returns the columns of a query in `from`, and the function of its entries."""
    plan = QUERIES[tree[1][0]]
    names, run = plan(around, tree[1])
    known = known_as(tree)
    return ([(known, name) for name in names] + [(known, None)], run)


def _join(around, tree):
    """Returns the columns of a join, and the function of its entries."""
    first_side = _from(around, tree[1])
    return join_of(around, tree, first_side, _from(around, tree[2]))


QUERIES = {"select": _select, "set": _set}
SOURCES = {"table": _table, "subquery": _subquery, "join": _join}
