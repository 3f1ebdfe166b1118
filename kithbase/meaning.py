"""What questions mean.

Queries and expressions are made into functions of the current rows (`kithbase/formulas.py`), once for each question.
The function of a query returns a list of rows, and that of an expression a value.
"""

from kithbase.formulas import constant, formula, reading, remembered
from kithbase.kinds import check
from kithbase.rowsets import combined, distinct_rows, fold, groups_of, sorted_rows
from kithbase.scopes import Scope, Setting, find_column
from kithbase.trees import column_name, conjuncts, known_as, makes_groups, operands_of, query_of
from kithbase.values import value_key

# How many answers of a query in another one are remembered, of those that take much room and of those that are values.
MOST_LISTS = 50
MOST_VALUES = 100000


def answer(tree, sources, parameters):
    """Checks the question, and returns the pair of the names of its columns and the list of its rows."""
    names = [name for name, kind in check(tree, sources, parameters)]
    order = []
    for key, descending in tree[2]:
        order.append((key - 1 if isinstance(key, int) else names.index(key), descending))
    rows = sorted_rows(query_rows(tree[1], sources, parameters), order)
    return (names, rows if tree[3] is None else rows[:tree[3]])


def query_rows(query, sources, parameters):
    """Returns the list of the rows of a checked query, in the order in which they are made."""
    plan = QUERIES[query[0]]
    names, run = plan(Scope(Setting(sources, parameters), None, []), query)
    return run({})


def _set(around, tree):
    """Returns the names of the columns of a set operator, and its function."""
    plan_first, plan_second = QUERIES[tree[2][0]], QUERIES[tree[3][0]]
    names, first = plan_first(around, tree[2])
    others, second = plan_second(around, tree[3])
    return (names, lambda current: combined(tree[1], first(current), second(current)))


def _select(around, tree):
    """Returns the names of the columns of a select, and its function."""
    _, distinct, items, sources, where, group, having = tree
    columns, source_rows = _from(around, sources)
    scope = Scope(around.setting, around, columns)
    where_holds = constant(True) if where is None else function_of(scope, where)
    names = [name for source, name in columns] if items is None else []
    shown = [reading(scope.depth, index) for index in range(len(names))]
    for expression, name in items or ():
        names.append(column_name(expression, name))
        shown.append(function_of(scope, expression))
    having_holds = constant(True) if having is None else function_of(scope, having)
    indexes = None if group is None else [find_column(scope, key[1], key[2])[1] for key in group]
    groups = makes_groups(tree)

    def run(current):
        """Returns the rows of the select."""
        given = source_rows(current)
        rows = []
        for row in given:
            current[scope.depth] = row
            if where_holds(current) is True:
                rows.append(row)
        if groups:
            rows = _rows_of_groups(scope, current, groups_of(rows, indexes))
        made = []
        for row in rows:
            current[scope.depth] = row
            if having_holds(current) is True:
                values = []
                for function in shown:
                    values.append(function(current))
                made.append(tuple(values))
        return distinct_rows(made) if distinct else made

    return (names, run)


def _rows_of_groups(scope, current, groups):
    """Returns a row for each group: its first row, and behind that the values of the aggregates over the group."""
    rows = []
    for group in groups:
        values = []
        for word, operand in scope.folds:
            operands = []
            for row in group:
                current[scope.depth] = row
                operands.append(operand(current))
            values.append(fold(word, operands))
        # A group can be without rows only where nothing is grouped by, and then no column is read.
        first = group[0] if group else (None,) * len(scope.columns)
        rows.append(first + tuple(values))
    return rows


def _from(around, tree):
    """Returns the columns of what stands in `from`, and its function."""
    if tree is None:
        return ([], constant([()]))
    inner = _within(around)
    plan = SOURCES[tree[0]]
    columns, run = plan(inner, tree)
    return (columns, remembered(_readers(inner), run, _as_it_is, MOST_LISTS))


def _within(around):
    """Returns a scope without columns, which notes what is used of the scopes around it."""
    return Scope(around.setting, around, [])


def _readers(scope):
    """Returns the list of the functions that read what is used in a scope of those around it."""
    return [reading(depth, index) for depth, index in scope.reads]


def _as_it_is(made):
    """Returns what is made."""
    return made


def _table(around, tree):
    """Returns the columns of a table, and its function."""
    source = around.setting.sources[tree[1]]
    return ([(known_as(tree), name) for name in source.columns], constant(source.rows))


def _subquery(around, tree):
    """Returns the columns of a query in `from`, and its function."""
    plan = QUERIES[tree[1][0]]
    names, run = plan(around, tree[1])
    return ([(known_as(tree), name) for name in names], run)


def _join(around, tree):
    """Returns the columns of a join, and its function."""
    plan_left, plan_right = SOURCES[tree[1][0]], SOURCES[tree[2][0]]
    first_side = plan_left(around, tree[1])
    return join_of(around, tree, first_side, plan_right(around, tree[2]))


def join_of(around, tree, first_side, second_side):
    """Returns the columns of a join, and its function, given those of its two sides."""
    left, left_rows = first_side
    right, right_rows = second_side
    scope = Scope(around.setting, around, left + right)
    parts, first_key, second_key = _condition(scope, tree[3], len(left))
    depth, outer = scope.depth, tree[4]

    def run(current):
        """Returns the rows of the join."""
        firsts, seconds = left_rows(current), right_rows(current)
        partners = {}
        for second in seconds:
            current[depth] = (None,) * len(left) + second
            value = second_key(current)
            if value is not None:
                partners.setdefault(value_key(value), []).append(second)
        rows = []
        for first in firsts:
            current[depth] = first
            found = _pairs(parts, current, depth, first, partners.get(value_key(first_key(current)), []))
            rows.extend(found if found or not outer else [first + (None,) * len(right)])
        return rows

    return (left + right, run)


def _pairs(parts, current, depth, first, seconds):
    """Returns the list of the pairs of a row and one of the others for which all parts of a condition hold."""
    rows = []
    for second in seconds:
        current[depth] = first + second
        for part in parts:
            if part(current) is not True:
                break
        else:
            rows.append(first + second)
    return rows


def _condition(scope, condition, width):
    """Returns the functions of the parts of a condition that are joined by `and`, and a function for each side.

    These two have the same value for all pairs of rows for which the condition holds, so that not all pairs have to
    be tried. They are the operands of an equation of the left side, which has so many columns, and the right one.
    """
    parts = []
    keys = (constant(0), constant(0))
    for part in conjuncts(condition):
        if part[0] == "binary" and part[1] == "=":
            one, two = _within(scope), _within(scope)
            functions = [function_of(one, part[2]), function_of(two, part[3])]
            parts.append(formula(part, functions))
            sides = (_side_of(one, scope.depth, width), _side_of(two, scope.depth, width))
            if sides == ("left", "right"):
                keys = (functions[0], functions[1])
            if sides == ("right", "left"):
                keys = (functions[1], functions[0])
        else:
            parts.append(function_of(scope, part))
    return (parts, keys[0], keys[1])


def _side_of(inner, depth, width):
    """Returns the side of a join that the expression uses which was planned in this scope, if it is only one."""
    sides = ["left" if index < width else "right" for found, index in inner.reads if found == depth]
    return sides[0] if sides and sides.count(sides[0]) == len(sides) else "both"


def function_of(scope, tree):
    """Returns the function of an expression, whose columns are those of the scope and of those around it."""
    functions = []
    for operand in operands_of(tree):
        functions.append(function_of(scope, operand))
    if tree[0] in LEAVES:
        make = LEAVES[tree[0]]
        return make(scope, tree, functions)
    query = query_of(tree)
    if query is None:
        return formula(tree, functions)
    inner = _within(scope)
    plan = QUERIES[query[0]]
    names, run = plan(inner, query)
    shape = SHAPES[tree[0]]
    if tree[0] != "in_query":
        return remembered(_readers(inner), run, shape, MOST_VALUES)
    # The keys of a query take much room, so not many of them are remembered, but what follows from them is.
    keys = remembered(_readers(inner), run, shape, MOST_LISTS)
    truth = formula(tree, functions + [keys])
    return remembered(functions + _readers(inner), truth, _as_it_is, MOST_VALUES)


def _is_there(rows):
    """True if there is a row."""
    return len(rows) > 0


def _only_value(rows):
    """Returns the value of the only row."""
    return rows[0][0]


def _keys_of_column(rows):
    """Returns a dict with True for the key of each value of the only column."""
    return {value_key(row[0]): True for row in rows}


def _literal(scope, tree, functions):
    """Returns the function of a literal."""
    return constant(tree[1])


def _parameter(scope, tree, functions):
    """Returns the function of a parameter."""
    return constant(scope.setting.parameters[tree[1] - 1])


def _column(scope, tree, functions):
    """Returns the function of a column."""
    found, index = find_column(scope, tree[1], tree[2])
    while scope.depth > found.depth:
        scope.reads[(found.depth, index)] = True
        scope = scope.around
    return reading(found.depth, index)


def _aggregate(scope, tree, functions):
    """Returns the function of an aggregate, whose values stand behind those of the columns."""
    # Each row counts for `count(*)`, as if its operand were never None.
    scope.folds.append((tree[1], functions[0]) if functions else ("count", constant(True)))
    return reading(scope.depth, len(scope.columns) + len(scope.folds) - 1)


QUERIES = {"select": _select, "set": _set}
SOURCES = {"table": _table, "subquery": _subquery, "join": _join}
SHAPES = {"exists": _is_there, "scalar": _only_value, "in_query": _keys_of_column}
LEAVES = {"literal": _literal, "parameter": _parameter, "column": _column, "count_all": _aggregate,
          "aggregate": _aggregate}
