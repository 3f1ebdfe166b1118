"""The order of all values, arithmetic, comparisons, and the three values of truth."""

MOST_CHARACTERS = 2000


def value_key(value):
    """Returns what values are ordered by."""
    if value is None:
        return (0,)
    if isinstance(value, bool):
        return (2,) if value else (1,)
    if isinstance(value, int):
        return (3, value)
    return (4, value)


def row_key(row):
    """Returns what rows of one length are ordered by. Rows with the same key have the same length and values."""
    key = []
    for value in row:
        key.extend(value_key(value))
    return tuple(key)


def same(first, second):
    """True if neither of the two values stands before the other."""
    # True and 1 are equal in Python, but a boolean is never the same as an integer.
    return first == second and isinstance(first, bool) == isinstance(second, bool)


def arithmetic(operator, first, second):
    """Returns the result of `+`, `-`, `*`, `/`, `mod` or `||`."""
    if first is None or second is None:
        return None
    if operator == "||":
        joined = first + second
        return joined if len(joined) <= MOST_CHARACTERS else None
    if operator == "+":
        return bounded(first + second)
    if operator == "-":
        return bounded(first - second)
    if operator == "*":
        return bounded(first * second)
    if second == 0:
        return None
    quotient = _quotient(first, second)
    return bounded(quotient if operator == "/" else first - quotient * second)


def bounded(number):
    """Returns the number, or None if it is too great to be a result."""
    return number if abs(number) < 10 ** 40 else None


def _quotient(first, second):
    """Returns the quotient of two integers, rounded toward zero."""
    quotient = abs(first) // abs(second)
    return quotient if (first < 0) == (second < 0) else -quotient


def compare(operator, first, second):
    """Returns the result of a comparison."""
    if first is None or second is None:
        return None
    if operator == "=":
        return same(first, second)
    if operator == "<>":
        return not same(first, second)
    if operator == "<":
        return value_key(first) < value_key(second)
    if operator == "<=":
        return value_key(first) <= value_key(second)
    if operator == ">":
        return value_key(first) > value_key(second)
    return value_key(first) >= value_key(second)


def negation(value):
    """Returns `not` of a value of truth."""
    return None if value is None else not value


def conjunction(first, second):
    """Returns `and` of two values of truth."""
    if first is False or second is False:
        return False
    return True if first is True and second is True else None


def disjunction(first, second):
    """Returns `or` of two values of truth."""
    if first is True or second is True:
        return True
    return False if first is False and second is False else None
