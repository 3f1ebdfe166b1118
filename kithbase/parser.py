"""Questions as trees."""

from kithbase.errors import RefusedText
from kithbase.tokens import tokenize

MOST_TOKENS = 120
MOST_DEPTH = 12
COMPARISONS = ("=", "<>", "<", "<=", ">", ">=")
AGGREGATES = ("count", "sum", "min", "max")
CONSTANTS = {"null": None, "true": True, "false": False}


class Parsing:
    """The tokens of a question, how many of them have been read, and the depth of the next one."""

    def __init__(self, text):
        tokens = tokenize(text)
        self.tokens = tokens[:MOST_TOKENS]
        self.at = 0
        self.depth = 0
        # What stands behind the last token continues nothing, but only the end of the text ends a question.
        if len(tokens) > MOST_TOKENS:
            self.tokens.append(("refused", "", tokens[MOST_TOKENS][2]))
        else:
            self.tokens.append(("end", "", len(text)))


def parse(text):
    """Returns the tree of the question."""
    parsing = Parsing(text)
    tree = _question(parsing)
    _take(parsing, "end")
    return tree


def _refuse(parsing):
    """Refuses the question at the next token."""
    raise RefusedText(parsing.tokens[parsing.at][2])


def _kind(parsing):
    """Returns the kind of the next token."""
    return parsing.tokens[parsing.at][0]


def _take(parsing, kind):
    """Reads a token, which must be of the kind, and returns its value."""
    if _kind(parsing) != kind:
        _refuse(parsing)
    parsing.at += 1
    return parsing.tokens[parsing.at - 1][1]


def _sees(parsing, word):
    """True if the next token is this keyword or sign."""
    kind, told, position = parsing.tokens[parsing.at]
    return kind in ("keyword", "sign") and told == word


def _skip(parsing, word):
    """Reads the keyword or sign if it is the next token, and tells whether it is."""
    if not _sees(parsing, word):
        return False
    parsing.at += 1
    return True


def _need(parsing, word):
    """Reads the keyword or sign, which must be the next token."""
    if not _skip(parsing, word):
        _refuse(parsing)


def _skip_one(parsing, words):
    """Reads the next token if it is one of the keywords or signs, and returns it, otherwise None."""
    for word in words:
        if _skip(parsing, word):
            return word
    return None


def _go_in(parsing, word):
    """Reads the keyword or sign, which must be the next token, and makes what follows one deeper."""
    if parsing.depth >= MOST_DEPTH:
        _refuse(parsing)
    _need(parsing, word)
    parsing.depth += 1


def _go_out(parsing, word):
    """Reads the keyword or sign that ends what is deeper."""
    _need(parsing, word)
    parsing.depth -= 1


def _list_of(parsing, part):
    """Reads one or more parts with commas between them, and returns the tuple of their trees."""
    trees = [part(parsing)]
    while _skip(parsing, ","):
        trees.append(part(parsing))
    return tuple(trees)


def _question(parsing):
    """Reads a question."""
    query = _query(parsing)
    order = ()
    limit = None
    if _skip(parsing, "order"):
        _need(parsing, "by")
        order = _list_of(parsing, _order_key)
    if _skip(parsing, "limit"):
        limit = _take(parsing, "integer")
    return ("question", query, order, limit)


def _order_key(parsing):
    """Reads what is ordered by, and returns it with True for the reverse order."""
    kind = "integer" if _kind(parsing) == "integer" else "name"
    key = _take(parsing, kind)
    return (key, _skip(parsing, "desc"))


def _query(parsing):
    """Reads a query: parts with set operators between them."""
    tree = _part(parsing)
    operator = _skip_one(parsing, ("union", "except", "intersect"))
    while operator is not None:
        if operator == "union" and _skip(parsing, "all"):
            operator = "union all"
        tree = ("set", operator, tree, _part(parsing))
        operator = _skip_one(parsing, ("union", "except", "intersect"))
    return tree


def _part(parsing):
    """Reads a select or a query in parentheses."""
    if _sees(parsing, "("):
        return _query_in_parentheses(parsing)
    return _select(parsing)


def _query_in_parentheses(parsing):
    """Reads a query in parentheses."""
    _go_in(parsing, "(")
    tree = _query(parsing)
    _go_out(parsing, ")")
    return tree


def _select(parsing):
    """Reads a select."""
    _need(parsing, "select")
    distinct = _skip(parsing, "distinct")
    items = None if _skip(parsing, "*") else _list_of(parsing, _item)
    sources = _sources(parsing) if _skip(parsing, "from") else None
    where = _expression(parsing) if _skip(parsing, "where") else None
    group = None
    if _skip(parsing, "group"):
        _need(parsing, "by")
        group = _list_of(parsing, _expression)
    having = _expression(parsing) if _skip(parsing, "having") else None
    return ("select", distinct, items, sources, where, group, having)


def _item(parsing):
    """Reads an expression of a list, with its name."""
    tree = _expression(parsing)
    return (tree, _take(parsing, "name") if _skip(parsing, "as") else None)


def _sources(parsing):
    """Reads a source and what is joined to it."""
    tree = _source(parsing)
    first = _skip_one(parsing, ("join", "left"))
    while first is not None:
        if first == "left":
            _need(parsing, "join")
        right = _source(parsing)
        _need(parsing, "on")
        tree = ("join", tree, right, _expression(parsing), first == "left")
        first = _skip_one(parsing, ("join", "left"))
    return tree


def _source(parsing):
    """Reads the name of a table, or a query in parentheses, with the name that it is known by."""
    if _sees(parsing, "("):
        query = _query_in_parentheses(parsing)
        return ("subquery", query, _take(parsing, "name"))
    name = _take(parsing, "name")
    return ("table", name, _take(parsing, "name") if _kind(parsing) == "name" else None)


def _expression(parsing):
    """Reads an expression."""
    return _chain(parsing, ("or",), _conjunction)


def _chain(parsing, operators, operand):
    """Reads operands with operators between them that bind equally tight."""
    tree = operand(parsing)
    operator = _skip_one(parsing, operators)
    while operator is not None:
        tree = ("binary", operator, tree, operand(parsing))
        operator = _skip_one(parsing, operators)
    return tree


def _conjunction(parsing):
    """Reads an expression that binds tighter than `or`."""
    return _chain(parsing, ("and",), _negation)


def _prefixed(parsing, sign, word, operand):
    """Reads a prefix operator and its operand."""
    _go_in(parsing, sign)
    tree = (word, operand(parsing))
    parsing.depth -= 1
    return tree


def _negation(parsing):
    """Reads an expression that binds tighter than `and`."""
    if _sees(parsing, "not"):
        return _prefixed(parsing, "not", "not", _negation)
    return _comparison(parsing)


def _comparison(parsing):
    """Reads an expression that binds tighter than `not`."""
    tree = _total(parsing)
    while True:
        operator = _skip_one(parsing, COMPARISONS)
        if operator is not None:
            tree = ("binary", operator, tree, _total(parsing))
        elif _skip(parsing, "is"):
            negated = _skip(parsing, "not")
            _need(parsing, "null")
            tree = ("is_null", tree, negated)
        elif _sees(parsing, "not") or _sees(parsing, "in"):
            tree = _membership(parsing, tree)
        else:
            return tree


def _membership(parsing, operand):
    """Reads what stands behind the operand of `in` or `not in`."""
    negated = _skip(parsing, "not")
    _need(parsing, "in")
    _go_in(parsing, "(")
    if _sees(parsing, "select"):
        tree = ("in_query", operand, _query(parsing), negated)
    else:
        tree = ("in_list", operand, _list_of(parsing, _expression), negated)
    _go_out(parsing, ")")
    return tree


def _total(parsing):
    """Reads an expression that binds tighter than comparisons."""
    return _chain(parsing, ("+", "-", "||"), _product)


def _product(parsing):
    """Reads an expression that binds tighter than sums."""
    return _chain(parsing, ("*", "/", "mod"), _negative)


def _negative(parsing):
    """Reads an expression that binds tighter than products."""
    if _sees(parsing, "-"):
        return _prefixed(parsing, "-", "negate", _negative)
    return _primary(parsing)


def _primary(parsing):
    """Reads an expression without an operator."""
    kind = _kind(parsing)
    if kind in ("integer", "text"):
        return ("literal", _take(parsing, kind))
    if kind == "parameter":
        return ("parameter", _take(parsing, kind))
    if kind == "name":
        return _column(parsing)
    if _sees(parsing, "("):
        return _parentheses(parsing)
    return _worded(parsing)


def _column(parsing):
    """Reads the name of a column, perhaps with that of its source."""
    name = _take(parsing, "name")
    if _skip(parsing, "."):
        return ("column", name, _take(parsing, "name"))
    return ("column", None, name)


def _parentheses(parsing):
    """Reads a query or an expression in parentheses."""
    _go_in(parsing, "(")
    tree = ("scalar", _query(parsing)) if _sees(parsing, "select") else _expression(parsing)
    _go_out(parsing, ")")
    return tree


def _worded(parsing):
    """Reads an expression without an operator that begins with a keyword."""
    if _sees(parsing, "case"):
        return _case(parsing)
    if _skip(parsing, "exists"):
        return ("exists", _query_in_parentheses(parsing))
    word = _skip_one(parsing, list(CONSTANTS))
    if word is not None:
        return ("literal", CONSTANTS[word])
    function = _skip_one(parsing, AGGREGATES)
    if function is None:
        _refuse(parsing)
    return _aggregate(parsing, function)


def _case(parsing):
    """Reads an expression with a condition and two branches."""
    _go_in(parsing, "case")
    _need(parsing, "when")
    condition = _expression(parsing)
    _need(parsing, "then")
    first = _expression(parsing)
    _need(parsing, "else")
    second = _expression(parsing)
    _go_out(parsing, "end")
    return ("case", condition, first, second)


def _aggregate(parsing, function):
    """Reads what stands behind the name of an aggregate."""
    _go_in(parsing, "(")
    if function == "count" and _skip(parsing, "*"):
        tree = ("count_all",)
    else:
        tree = ("aggregate", function, _expression(parsing))
    _go_out(parsing, ")")
    return tree
