"""What follows from the trees of questions alone."""

AGGREGATES = ("count_all", "aggregate")


def column_name(expression, name):
    """Returns the name of a column of a select with this expression and the name after `as`, if there is one."""
    if name is not None:
        return name
    return expression[2] if expression[0] == "column" else ""


def known_as(source):
    """Returns the name by which a table or a query in `from` is known."""
    return source[1] if source[2] is None else source[2]


def source_names(sources):
    """Returns the list of the names by which the sources are known, in their order."""
    names = []
    rest = [sources]
    while rest:
        source = rest.pop()
        if source[0] == "join":
            rest.extend([source[2], source[1]])
        else:
            names.append(known_as(source))
    return names


def makes_groups(select):
    """True if the select groups."""
    return select[5] is not None or select[6] is not None or has_aggregate(select)


def makes_one_row(query):
    """True if the query is sure to have one row."""
    return query[0] == "select" and query[5] is None and query[6] is None and has_aggregate(query)


def has_aggregate(select):
    """True if the list of the select contains an aggregate that belongs to it."""
    rest = [] if select[2] is None else [expression for expression, name in select[2]]
    while rest:
        expression = rest.pop()
        if expression[0] in AGGREGATES:
            return True
        rest.extend(operands_of(expression))
    return False


def operands_of(expression):
    """Returns the list of the expressions directly in an expression, from left to right, without those in a query."""
    word = expression[0]
    if word in ("not", "negate", "is_null", "in_query"):
        return [expression[1]]
    if word == "in_list":
        return [expression[1]] + list(expression[2])
    if word in ("binary", "aggregate"):
        return list(expression[2:])
    return list(expression[1:]) if word == "case" else []


def query_of(expression):
    """Returns the query directly in an expression, or None if there is none."""
    if expression[0] in ("exists", "scalar"):
        return expression[1]
    return expression[2] if expression[0] == "in_query" else None


def has_query(expression):
    """True if there is a query in the expression."""
    rest = [expression]
    while rest:
        part = rest.pop()
        if query_of(part) is not None:
            return True
        rest.extend(operands_of(part))
    return False


def conjuncts(condition):
    """Returns the list of the conditions that are joined by `and`."""
    found = []
    rest = [condition]
    while rest:
        part = rest.pop()
        if part[0] == "binary" and part[1] == "and":
            rest.extend([part[3], part[2]])
        else:
            found.append(part)
    return found
