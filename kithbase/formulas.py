"""Functions of the current rows.

All of them are passed the dict `current`, which has the current row of each scope, by the depth of the scope.
"""

from kithbase.values import arithmetic, compare, conjunction, disjunction, negation, row_key, value_key

COMPARISONS = ("=", "<>", "<", "<=", ">", ">=")


def constant(value):
    """Returns a function that always returns the value."""
    return lambda current: value


def reading(depth, index):
    """Returns a function that returns a value of the current row of a scope."""
    return lambda current: current[depth][index]


def formula(tree, functions):
    """Returns the function of an expression, given the functions of what it is made of, from left to right."""
    make = FORMS[tree[0]]
    return make(tree, functions)


def remembered(readers, run, shape, most):
    """Returns a function that returns what `shape` makes of the result of `run`.

    This follows from what the readers return, functions of the current rows themselves, so it is made once for the same
    values. Otherwise the inner ones of nested queries would be asked for each combination of the rows of the outer
    ones. Not more than `most` results are remembered at a time.
    """
    memory = {}

    def recall(current):
        """Returns what belongs to the current rows."""
        key = row_key([read(current) for read in readers])
        if key not in memory:
            if len(memory) >= most:
                memory.clear()
            memory[key] = shape(run(current))
        return memory[key]

    return recall


def _not(tree, functions):
    """Makes the function of `not`."""
    operand = functions[0]
    return lambda current: negation(operand(current))


def _negate(tree, functions):
    """Makes the function of a minus sign before its operand."""
    operand = functions[0]
    return lambda current: arithmetic("-", 0, operand(current))


def _binary(tree, functions):
    """Makes the function of an operator between two operands."""
    operator = tree[1]
    first, second = functions
    if operator == "and":
        return _and(first, second)
    if operator == "or":
        return _or(first, second)
    if operator in COMPARISONS:
        return lambda current: compare(operator, first(current), second(current))
    return lambda current: arithmetic(operator, first(current), second(current))


def _and(first, second):
    """Makes the function of `and`."""

    def truth(current):
        """Returns the value of truth; the second operand is asked for only if the first one leaves it open."""
        told = first(current)
        return False if told is False else conjunction(told, second(current))

    return truth


def _or(first, second):
    """Makes the function of `or`."""

    def truth(current):
        """Returns the value of truth; the second operand is asked for only if the first one leaves it open."""
        told = first(current)
        return True if told is True else disjunction(told, second(current))

    return truth


def _is_null(tree, functions):
    """Makes the function of `is null`."""
    operand = functions[0]
    negated = tree[2]
    return lambda current: (operand(current) is None) != negated


def _in_list(tree, functions):
    """Makes the function of `in` over a list."""
    operand = functions[0]
    choices = functions[1:]
    negated = tree[3]

    def truth(current):
        """Returns the value of truth."""
        value = operand(current)
        told = False
        for choice in choices:
            told = disjunction(told, compare("=", value, choice(current)))
        return negation(told) if negated else told

    return truth


def _in_query(tree, functions):
    """Makes the function of `in` over a query, whose own function returns a dict with the keys of its values."""
    operand, keys = functions
    negated = tree[3]

    def truth(current):
        """Returns the value of truth."""
        told = _is_among(operand(current), keys(current))
        return negation(told) if negated else told

    return truth


def _is_among(value, keys):
    """Returns the value of truth of `in` over values with these keys."""
    if not keys:
        return False
    if value is None:
        return None
    if value_key(value) in keys:
        return True
    return None if value_key(None) in keys else False


def _case(tree, functions):
    """Makes the function of `case`."""
    condition, first, second = functions
    return lambda current: first(current) if condition(current) is True else second(current)


FORMS = {"not": _not, "negate": _negate, "binary": _binary, "is_null": _is_null, "in_list": _in_list,
         "in_query": _in_query, "case": _case}
