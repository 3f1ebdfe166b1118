"""The text of a question.

A tree is taken apart into pieces: a piece is the text of a token, or a pair of a tree and a level. The level tells how
tight a tree must bind to stand there without parentheses.
"""

from kithbase.tokens import write_token

# How tight operators bind: the lines of the document.
LINES = {"or": 1, "and": 2, "=": 4, "<>": 4, "<": 4, "<=": 4, ">": 4, ">=": 4, "+": 5, "-": 5, "||": 5, "*": 6, "/": 6,
         "mod": 6}
# How tight other trees bind, as far as they need parentheses anywhere; set operators are compared with queries only.
LEVELS = {"not": 3, "is_null": 4, "in_list": 4, "in_query": 4, "negate": 7, "set": 1}
HIGHEST = 8
CALLED = ("count", "sum", "min", "max")


def write_question(tree):
    """Returns a text that is read as this tree."""
    words = []
    rest = [(tree, 0)]
    while rest:
        piece = rest.pop()
        if isinstance(piece, str):
            words.append(piece)
        else:
            rest.extend(_pieces(piece[0], piece[1])[::-1])
    return _joined(words)


def _joined(words):
    """Returns the text of the tokens, with blanks between them except where it looks better without."""
    parts = []
    last = "("
    for word in words:
        called = word == "(" and last in CALLED
        if not called and last not in ("(", ".") and word not in (")", ",", "."):
            parts.append(" ")
        parts.append(word)
        last = word
    return "".join(parts)


def _pieces(tree, level):
    """Returns the list of the pieces of a tree that stands where this level is needed."""
    take_apart = FORMS[tree[0]]
    pieces = take_apart(tree)
    return pieces if _level_of(tree) >= level else ["("] + pieces + [")"]


def _level_of(tree):
    """Returns how tight a tree binds."""
    return LINES[tree[1]] if tree[0] == "binary" else LEVELS.get(tree[0], HIGHEST)


def _separated(lists):
    """Returns the list of the pieces of several lists, with commas between them."""
    pieces = []
    for more in lists:
        if pieces:
            pieces.append(",")
        pieces.extend(more)
    return pieces


def _expressions(trees):
    """Returns the pieces of expressions with commas between them."""
    return _separated([[(tree, 1)] for tree in trees])


def _question(tree):
    """Takes a question apart."""
    keys = [[str(key), "desc"] if descending else [str(key)] for key, descending in tree[2]]
    order = ["order", "by"] + _separated(keys) if keys else []
    return [(tree[1], 1)] + order + ([] if tree[3] is None else ["limit", str(tree[3])])


def _set(tree):
    """Takes a set operator apart; only on its right another one needs parentheses."""
    return [(tree[2], 1)] + tree[1].split() + [(tree[3], 2)]


def _select(tree):
    """Takes a select apart."""
    _, distinct, items, sources, where, group, having = tree
    pieces = ["select", "distinct"] if distinct else ["select"]
    pieces.extend(["*"] if items is None else _separated([_item(expression, name) for expression, name in items]))
    if sources is not None:
        pieces.extend(["from", (sources, 0)])
    if where is not None:
        pieces.extend(["where", (where, 1)])
    if group is not None:
        pieces.extend(["group", "by"] + _expressions(group))
    if having is not None:
        pieces.extend(["having", (having, 1)])
    return pieces


def _item(expression, name):
    """Returns the pieces of a column of a select."""
    return [(expression, 1)] if name is None else [(expression, 1), "as", name]


def _table(tree):
    """Takes a table apart."""
    return [tree[1]] if tree[2] is None else [tree[1], tree[2]]


def _subquery(tree):
    """Takes a query in `from` apart."""
    return ["(", (tree[1], 1), ")", tree[2]]


def _join(tree):
    """Takes a join apart."""
    words = ["left", "join"] if tree[4] else ["join"]
    return [(tree[1], 0)] + words + [(tree[2], 0), "on", (tree[3], 1)]


def _literal(tree):
    """Takes a literal apart."""
    value = tree[1]
    if value is None:
        return ["null"]
    if isinstance(value, bool):
        return ["true" if value else "false"]
    return [write_token(("integer" if isinstance(value, int) else "text", value, 0))]


def _parameter(tree):
    """Takes a parameter apart."""
    return [write_token(("parameter", tree[1], 0))]


def _column(tree):
    """Takes a column apart."""
    return [tree[2]] if tree[1] is None else [tree[1], ".", tree[2]]


def _not(tree):
    """Takes `not` apart."""
    return ["not", (tree[1], 3)]


def _negate(tree):
    """Takes a minus sign before its operand apart."""
    return ["-", (tree[1], 7)]


def _binary(tree):
    """Takes an operator apart; on its right only what binds tighter needs no parentheses."""
    line = LINES[tree[1]]
    return [(tree[2], line), tree[1], (tree[3], line + 1)]


def _is_null(tree):
    """Takes `is null` apart."""
    return [(tree[1], 4)] + (["is", "not", "null"] if tree[2] else ["is", "null"])


def _in(tree):
    """Takes `in` apart."""
    words = ["not", "in", "("] if tree[3] else ["in", "("]
    return [(tree[1], 4)] + words + (_expressions(tree[2]) if tree[0] == "in_list" else [(tree[2], 1)]) + [")"]


def _exists(tree):
    """Takes `exists` apart."""
    return ["exists", "(", (tree[1], 1), ")"]


def _scalar(tree):
    """Takes a query that stands for a value apart."""
    return ["(", (tree[1], 1), ")"]


def _case(tree):
    """Takes `case` apart."""
    return ["case", "when", (tree[1], 1), "then", (tree[2], 1), "else", (tree[3], 1), "end"]


def _count_all(tree):
    """Takes `count(*)` apart."""
    return ["count", "(", "*", ")"]


def _aggregate(tree):
    """Takes an aggregate apart."""
    return [tree[1], "(", (tree[2], 1), ")"]


FORMS = {"question": _question, "set": _set, "select": _select, "table": _table, "subquery": _subquery, "join": _join,
         "literal": _literal, "parameter": _parameter, "column": _column, "not": _not, "negate": _negate,
         "binary": _binary, "is_null": _is_null, "in_list": _in, "in_query": _in, "exists": _exists, "scalar": _scalar,
         "case": _case, "count_all": _count_all, "aggregate": _aggregate}
