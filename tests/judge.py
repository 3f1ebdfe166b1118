"""A second reading of points 60 to 69, and questions with mistakes to compare it with the program.

An environment is a list of dicts, one for each scope, the innermost first. Each has the `columns`, as triples of the
name of a source, a name and a kind; `grouped`, the list of the indexes that may be used, or None for all; and
`aggregates`, whether aggregates may stand there.
"""


class Refused(Exception):
    """The check raises the error with this name, which keeps this name or number."""

    def __init__(self, error, kept=None):
        Exception.__init__(self, error, kept)
        self.told = (error, kept)


def must(condition, error, kept=None):
    if not condition:
        raise Refused(error, kept)


def scope(columns):
    return {"columns": columns, "grouped": None, "aggregates": False}


def fitting(first, second):
    return len({first, second} - {"null"}) < 2


def either(first, second):
    return first if first != "null" else second


def kind(value):
    return {"NoneType": "null", "bool": "boolean", "int": "integer", "str": "text"}[type(value).__name__]


def shallow(tree):
    """Yields the expressions in an expression that belong to the same select."""
    yield tree
    parts = {"in_list": lambda: (tree[1],) + tree[2], "in_query": lambda: tree[1:2], "exists": tuple, "scalar": tuple,
             "literal": tuple, "parameter": tuple, "column": tuple, "count_all": tuple, "binary": lambda: tree[2:],
             "aggregate": lambda: tree[2:], "is_null": lambda: tree[1:2]}.get(tree[0], lambda: tree[1:])()
    for part in parts:
        yield from shallow(part)


def with_aggregate(items):
    return any(part[0] in ("count_all", "aggregate") for tree, name in items or () for part in shallow(tree))


class Judge:
    def __init__(self, sources, parameters):
        self.sources, self.parameters = sources, parameters

    def question(self, tree):
        word, query, order, limit = tree
        columns = self.query(query, [])
        for key, descending in order:
            if isinstance(key, int):
                must(0 < key <= len(columns), "UnknownPosition", key)
            else:
                same = [name for name, told in columns if name == key]
                must(same, "UnknownColumn", key)
                must(len(same) == 1, "AmbiguousColumn", key)
        return columns

    def query(self, query, around):
        if query[0] == "select":
            return self.select(query, around)
        first, second = self.query(query[2], around), self.query(query[3], around)
        must(len(first) == len(second), "ColumnCount")
        must(all(fitting(one[1], two[1]) for one, two in zip(first, second)), "KindMismatch")
        return [(one[0], either(one[1], two[1])) for one, two in zip(first, second)]

    def select(self, query, around):
        word, distinct, items, sources, where, group, having = query
        own = scope(self.source(sources, around) if sources else [])
        inside = [own] + around
        self.truth(where, inside)
        grouped = []
        for tree in group or ():
            self.kind(tree, inside)
        for tree in group or ():
            must(tree[0] == "column", "GroupingNotAllowed")
            frame, index = self.find(tree, inside)
            must(frame is own, "GroupingNotAllowed")
            grouped.append(index)
        groups = bool(group) or having is not None or with_aggregate(items)
        own["grouped"], own["aggregates"] = grouped if groups else None, True
        if items is None:
            must(sources and not groups, "NothingToShow")
            columns = [(name, told) for known, name, told in own["columns"]]
        else:
            columns = []
            for tree, name in items:
                told = self.kind(tree, inside)
                columns.append((name or (tree[2] if tree[0] == "column" else ""), told))
        self.truth(having, inside)
        return columns

    def truth(self, tree, frames):
        if tree is not None:
            must(fitting(self.kind(tree, frames), "boolean"), "KindMismatch")

    def known(self, tree):
        return self.known(tree[1]) + self.known(tree[2]) if tree[0] == "join" else [tree[2] or tree[1]]

    def source(self, tree, around):
        if tree[0] == "join":
            columns = self.source(tree[1], around) + self.source(tree[2], around)
            twice = [name for name in self.known(tree[1]) if name in self.known(tree[2])]
            must(not twice, "DuplicateSource", twice[0] if twice else None)
            self.truth(tree[3], [scope(columns)] + around)
            return columns
        if tree[0] == "subquery":
            return [(tree[2], name, told) for name, told in self.query(tree[1], around)]
        must(tree[1] in self.sources, "UnknownTable", tree[1])
        source = self.sources[tree[1]]
        return [(tree[2] or tree[1], name, told) for name, told in zip(source.columns, source.kinds)]

    def find(self, tree, frames):
        for frame in frames:
            found = [index for index, (known, name, told) in enumerate(frame["columns"])
                     if name == tree[2] and (tree[1] is None or tree[1] == known)]
            if found:
                must(len(found) == 1, "AmbiguousColumn", tree[2])
                return frame, found[0]
        raise Refused("UnknownColumn", tree[2] if tree[1] is None else tree[1] + "." + tree[2])

    def kind(self, tree, frames):
        return getattr(self, "of_" + tree[0])(tree, frames)

    def of_literal(self, tree, frames):
        return kind(tree[1])

    def of_parameter(self, tree, frames):
        must(0 < tree[1] <= len(self.parameters), "UnknownParameter", tree[1])
        return kind(self.parameters[tree[1] - 1])

    def of_column(self, tree, frames):
        frame, index = self.find(tree, frames)
        must(frame["grouped"] is None or index in frame["grouped"], "NotGrouped", tree[2])
        return frame["columns"][index][2]

    def needing(self, needed, trees, frames):
        kinds = [self.kind(tree, frames) for tree in trees]
        must(all(fitting(told, needed) for told in kinds), "KindMismatch")
        return needed

    def of_not(self, tree, frames):
        return self.needing("boolean", tree[1:], frames)

    def of_negate(self, tree, frames):
        return self.needing("integer", tree[1:], frames)

    def of_binary(self, tree, frames):
        if tree[1] in ("and", "or"):
            return self.needing("boolean", tree[2:], frames)
        if tree[1] in ("+", "-", "*", "/", "mod"):
            return self.needing("integer", tree[2:], frames)
        if tree[1] == "||":
            return self.needing("text", tree[2:], frames)
        return self.of_in_list(("in_list", tree[2], tree[3:], False), frames)

    def of_is_null(self, tree, frames):
        self.kind(tree[1], frames)
        return "boolean"

    def of_in_list(self, tree, frames):
        first = self.kind(tree[1], frames)
        kinds = [self.kind(item, frames) for item in tree[2]]
        must(all(fitting(first, told) for told in kinds), "KindMismatch")
        return "boolean"

    def of_in_query(self, tree, frames):
        first = self.kind(tree[1], frames)
        columns = self.query(tree[2], frames)
        must(len(columns) == 1, "ColumnCount")
        must(fitting(first, columns[0][1]), "KindMismatch")
        return "boolean"

    def of_exists(self, tree, frames):
        self.query(tree[1], frames)
        return "boolean"

    def of_scalar(self, tree, frames):
        query = tree[1]
        columns = self.query(query, frames)
        must(len(columns) == 1, "ColumnCount")
        must(query[0] == "select" and query[5:] == (None, None) and with_aggregate(query[2]), "RowCount")
        return columns[0][1]

    def of_case(self, tree, frames):
        self.truth(tree[1], frames)
        first, second = self.kind(tree[2], frames), self.kind(tree[3], frames)
        must(fitting(first, second), "KindMismatch")
        return either(first, second)

    def of_count_all(self, tree, frames):
        must(frames[0]["aggregates"], "AggregateNotAllowed")
        return "integer"

    def of_aggregate(self, tree, frames):
        must(frames[0]["aggregates"], "AggregateNotAllowed")
        told = self.kind(tree[2], [scope(frames[0]["columns"])] + frames[1:])
        must(tree[1] != "sum" or fitting(told, "integer"), "KindMismatch")
        return told if tree[1] in ("min", "max") else "integer"


EXPRESSIONS = ("literal", "parameter", "column", "not", "negate", "binary", "is_null", "in_list", "in_query", "exists",
               "scalar", "case", "count_all", "aggregate")
OPERATORS = ("or", "and", "=", "<", "+", "mod", "||")


class Spoiler:
    """Puts mistakes into trees, and other things that may or may not be mistakes."""

    def __init__(self, chance, names, tables):
        self.chance, self.names, self.tables = chance, names, tables

    def spoiled(self, tree, share):
        """Returns the tree with some parts of it replaced, each with a probability of `share`."""
        if not isinstance(tree, tuple):
            return tree
        made = tuple([self.spoiled(part, share) for part in tree])
        if not made or self.chance.random() >= share:
            return made
        change = {"table": self.table, "subquery": self.subquery, "join": self.join, "select": self.select,
                  "question": self.question, "set": self.set_operator}.get(made[0])
        if change is not None:
            return change(made)
        return self.expression(made) if made[0] in EXPRESSIONS else made

    def name(self):
        return self.chance.choice(self.names)

    def leaf(self):
        return self.chance.choice([
            ("literal", self.chance.choice((None, True, 1, "x"))), ("parameter", self.chance.randrange(7)),
            ("count_all",), ("column", None, self.name()), ("column", self.chance.choice("abcz"), self.name())])

    def expression(self, tree):
        way = self.chance.randrange(7)
        if way == 0:
            return ("aggregate", self.chance.choice(("count", "sum", "min", "max")), tree)
        if way == 1:
            one = (tree, self.leaf()) if self.chance.random() < 0.5 else (self.leaf(), tree)
            return ("binary", self.chance.choice(OPERATORS)) + one
        if way == 2:
            return self.chance.choice([("not", tree), ("negate", tree), ("is_null", tree, True)])
        if way == 3:
            items = ((tree, None),) if self.chance.random() < 0.7 else ((tree, None), (self.leaf(), "x"))
            query = ("select", False, items, None, None, None, None)
            return self.chance.choice([("scalar", query), ("exists", query), ("in_query", self.leaf(), query, False)])
        if way == 4:
            return self.chance.choice([("case", tree, self.leaf(), self.leaf()),
                                       ("case", self.leaf(), self.leaf(), tree),
                                       ("in_list", tree, (self.leaf(), self.leaf()), False)])
        return self.leaf()

    def table(self, tree):
        return ("table", self.chance.choice(self.tables), self.chance.choice((None, "a", "b", "c")))

    def subquery(self, tree):
        return tree[:2] + (self.chance.choice("abc"),)

    def join(self, tree):
        return self.chance.choice([tree[1], tree[:3] + (self.leaf(),) + tree[4:]])

    def select(self, tree):
        tree = list(tree)
        place = self.chance.choice((2, 2, 3, 4, 5, 5, 6))
        some = [self.leaf() for k in range(self.chance.randrange(1, 3))]
        tree[place] = {2: self.chance.choice((None, tuple([(part, None) for part in some]))), 3: None,
                       4: self.chance.choice((None, some[0])), 5: self.chance.choice((None, tuple(some))),
                       6: self.chance.choice((None, some[0]))}[place]
        return tuple(tree)

    def question(self, tree):
        keys = [self.chance.choice((0, 1, 2, 3, "p", "q", "n", "w")) for k in range(self.chance.randrange(3))]
        return tree[:2] + (tuple([(key, False) for key in keys]),) + tree[3:]

    def set_operator(self, tree):
        return tree[:2] + self.chance.choice([(tree[3], tree[2]), (tree[2], tree[2])])
