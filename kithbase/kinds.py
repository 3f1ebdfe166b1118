"""Which questions can be answered, and the kinds of their columns."""

from kithbase.errors import AggregateNotAllowed, AmbiguousColumn, ColumnCount, DuplicateSource, GroupingNotAllowed
from kithbase.errors import KindMismatch, NotGrouped, NothingToShow, RowCount, UnknownColumn, UnknownParameter
from kithbase.errors import UnknownPosition, UnknownTable
from kithbase.scopes import Scope, Setting, find_column
from kithbase.trees import column_name, known_as, makes_groups, makes_one_row, operands_of, query_of, source_names

# The kind that an operator needs is the kind that it has; comparisons need kinds that fit.
NEEDED = {"and": "boolean", "or": "boolean", "+": "integer", "-": "integer", "*": "integer", "/": "integer",
          "mod": "integer", "||": "text"}


def kind_of(value):
    """Returns the kind of a value."""
    if value is None:
        return "null"
    if isinstance(value, bool):
        return "boolean"
    return "integer" if isinstance(value, int) else "text"


def fits(first, second):
    """True if the two kinds fit."""
    return first == second or first == "null" or second == "null"


def common(first, second):
    """Returns the common kind of two kinds that fit."""
    return second if first == "null" else first


def check(tree, sources, parameters):
    """Checks a question, and returns the list of pairs (name, kind) of its columns."""
    columns = check_query(tree[1], sources, parameters)
    for key, descending in tree[2]:
        _check_key(columns, key)
    return columns


def check_query(query, sources, parameters):
    """Checks a query, and returns the list of pairs (name, kind) of its columns."""
    check_one = QUERIES[query[0]]
    return check_one(Scope(Setting(sources, parameters), None, []), query)


def _check_key(columns, key):
    """Checks that an order key is one of the columns."""
    if isinstance(key, int):
        if not 1 <= key <= len(columns):
            raise UnknownPosition(key)
        return
    many = len([name for name, kind in columns if name == key])
    if many == 0:
        raise UnknownColumn(key)
    if many > 1:
        raise AmbiguousColumn(key)


def _need(kind, needed):
    """Checks that a kind fits the one that is needed."""
    if not fits(kind, needed):
        raise KindMismatch(f"{kind} stands where {needed} is needed")


def _set(around, tree):
    """Checks a set operator."""
    check_first, check_second = QUERIES[tree[2][0]], QUERIES[tree[3][0]]
    first = check_first(around, tree[2])
    second = check_second(around, tree[3])
    if len(first) != len(second):
        raise ColumnCount("the two queries of a set operator need equally many columns")
    columns = []
    for (name, kind), (other, beside) in zip(first, second):
        _need(kind, beside)
        columns.append((name, common(kind, beside)))
    return columns


def _select(around, tree):
    """Checks a select."""
    _, distinct, items, sources, where, group, having = tree
    scope = Scope(around.setting, around, [] if sources is None else _sources(around, sources))
    if where is not None:
        _need(_expression(scope, where), "boolean")
    grouped = {} if group is None else _group(scope, group)
    if makes_groups(tree):
        scope.grouped = grouped
    scope.allows = True
    columns = _all_columns(scope, tree) if items is None else []
    for expression, name in items or ():
        columns.append((column_name(expression, name), _expression(scope, expression)))
    if having is not None:
        _need(_expression(scope, having), "boolean")
    return columns


def _all_columns(scope, tree):
    """Returns the columns of a select whose list is `*`."""
    if tree[3] is None or makes_groups(tree):
        raise NothingToShow("there are no columns that * can stand for")
    return [(name, kind) for source, name, kind in scope.columns]


def _group(scope, group):
    """Checks the expressions of `group by`, and returns a dict with True for the indexes of their columns."""
    for expression in group:
        _expression(scope, expression)
    grouped = {}
    for expression in group:
        if expression[0] != "column":
            raise GroupingNotAllowed("only columns can be grouped by")
        found, index = find_column(scope, expression[1], expression[2])
        if found.depth != scope.depth:
            raise GroupingNotAllowed("only columns of the same select can be grouped by")
        grouped[index] = True
    return grouped


def _sources(around, tree):
    """Checks what stands in `from`, and returns its columns."""
    if tree[0] == "join":
        return _join(around, tree)
    if tree[0] == "table":
        columns = _columns_of_table(around, tree[1])
    else:
        check_one = QUERIES[tree[1][0]]
        columns = check_one(around, tree[1])
    return [(known_as(tree), name, kind) for name, kind in columns]


def _columns_of_table(around, name):
    """Returns the list of pairs (name, kind) of the columns of a table."""
    if name not in around.setting.sources:
        raise UnknownTable(name)
    source = around.setting.sources[name]
    return list(zip(source.columns, source.kinds))


def _join(around, tree):
    """Checks a join, and returns the columns of its two sides."""
    columns = _sources(around, tree[1])
    columns = columns + _sources(around, tree[2])
    others = source_names(tree[2])
    for name in source_names(tree[1]):
        if name in others:
            raise DuplicateSource(name)
    _need(_expression(Scope(around.setting, around, columns), tree[3]), "boolean")
    return columns


def _expression(scope, tree):
    """Checks an expression, and returns its kind."""
    if tree[0] in EARLY:
        check_early = EARLY[tree[0]]
        return check_early(scope, tree)
    kinds = []
    for operand in operands_of(tree):
        kinds.append(_expression(scope, operand))
    query = query_of(tree)
    if query is not None:
        check_query_of = QUERIES[query[0]]
        columns = check_query_of(scope, query)
        kinds.extend(_kinds_of_query(tree, columns))
    kind_of_form = FORMS[tree[0]]
    return kind_of_form(scope, tree, kinds)


def _kinds_of_query(tree, columns):
    """Returns a list with the kind of the column that the query of an expression needs, if it needs one."""
    if tree[0] == "exists":
        return []
    if len(columns) != 1:
        raise ColumnCount("this query needs one column")
    return [columns[0][1]]


def _literal(scope, tree, kinds):
    """Returns the kind of a literal."""
    return kind_of(tree[1])


def _parameter(scope, tree, kinds):
    """Checks a parameter."""
    parameters = scope.setting.parameters
    if not 1 <= tree[1] <= len(parameters):
        raise UnknownParameter(tree[1])
    return kind_of(parameters[tree[1] - 1])


def _column(scope, tree, kinds):
    """Checks a column."""
    found, index = find_column(scope, tree[1], tree[2])
    if found.grouped is not None and index not in found.grouped:
        raise NotGrouped(tree[2])
    return found.columns[index][2]


def _not(scope, tree, kinds):
    """Checks `not`."""
    _need(kinds[0], "boolean")
    return "boolean"


def _negate(scope, tree, kinds):
    """Checks a minus sign before its operand."""
    _need(kinds[0], "integer")
    return "integer"


def _binary(scope, tree, kinds):
    """Checks an operator between two operands."""
    needed = NEEDED.get(tree[1])
    if needed is None:
        return _alike(scope, tree, kinds)
    for kind in kinds:
        _need(kind, needed)
    return needed


def _alike(scope, tree, kinds):
    """Checks what is compared with the first operand."""
    for kind in kinds[1:]:
        _need(kind, kinds[0])
    return "boolean"


def _truth(scope, tree, kinds):
    """Returns the kind of what takes any operand."""
    return "boolean"


def _scalar(scope, tree, kinds):
    """Checks a query that stands for a value."""
    if not makes_one_row(tree[1]):
        raise RowCount("a query that stands for a value needs one row")
    return kinds[0]


def _case(scope, tree):
    """Checks `case`, whose condition comes first."""
    _need(_expression(scope, tree[1]), "boolean")
    first = _expression(scope, tree[2])
    second = _expression(scope, tree[3])
    _need(first, second)
    return common(first, second)


def _aggregate(scope, tree):
    """Checks an aggregate, whose place comes first."""
    if not scope.allows:
        raise AggregateNotAllowed("no aggregate can stand here")
    if tree[0] == "count_all":
        return "integer"
    grouped = scope.grouped
    scope.allows, scope.grouped = False, None
    kind = _expression(scope, tree[2])
    scope.allows, scope.grouped = True, grouped
    if tree[1] == "sum":
        _need(kind, "integer")
    return kind if tree[1] in ("min", "max") else "integer"


QUERIES = {"select": _select, "set": _set}
EARLY = {"case": _case, "count_all": _aggregate, "aggregate": _aggregate}
FORMS = {"literal": _literal, "parameter": _parameter, "column": _column, "not": _not, "negate": _negate,
         "binary": _binary, "is_null": _truth, "in_list": _alike, "in_query": _alike, "exists": _truth,
         "scalar": _scalar}
