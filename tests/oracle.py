"""A second, slow reading of points 70 to 77, 82 and 83, and random questions to compare it with the program.

What a question means is told here as plainly as the document tells it: nothing is remembered, and everything is looked
for again in each row. This uses nothing of the program but its sources.
"""

import functools

from kithbase.sources import Source


def rank(value):
    return 0 if value is None else 1 if value is False else 2 if value is True else 3 if isinstance(value, int) else 4


def before(first, second):
    """True if the first value stands before the second one."""
    if rank(first) != rank(second):
        return rank(first) < rank(second)
    return rank(first) > 2 and first < second


def is_same(first, second):
    return not before(first, second) and not before(second, first)


def same_rows(first, second):
    return len(first) == len(second) and all(is_same(one, two) for one, two in zip(first, second))


def among(row, rows):
    return any(same_rows(row, other) for other in rows)


def firsts(rows):
    found = []
    for row in rows:
        if not among(row, found):
            found.append(row)
    return found


class Frame:
    """A scope with its current row, and the rows of its group where there is one."""

    def __init__(self, columns, row, group=None):
        self.columns, self.row, self.group = columns, row, group


def shorten(number):
    return number if -10 ** 40 < number < 10 ** 40 else None


def calculate(operator, first, second):
    if first is None or second is None:
        return None
    if operator == "||":
        return first + second if len(first + second) <= 2000 else None
    if operator in ("/", "mod"):
        if second == 0:
            return None
        quotient = abs(first) // abs(second) * (1 if (first >= 0) == (second > 0) else -1)
        return shorten(quotient if operator == "/" else first - quotient * second)
    return shorten({"+": first + second, "-": first - second, "*": first * second}[operator])


def compared(operator, first, second):
    if first is None or second is None:
        return None
    less, more = before(first, second), before(second, first)
    return {"=": not less and not more, "<>": less or more, "<": less, "<=": not more, ">": more,
            ">=": not less}[operator]


def opposite(value):
    return {True: False, False: True, None: None}[value]


def joined_truths(operator, first, second):
    decisive = operator == "or"
    if first is decisive or second is decisive:
        return decisive
    return None if first is None or second is None else not decisive


class Oracle:
    def __init__(self, sources, parameters):
        self.sources, self.parameters = sources, parameters

    def column(self, frames, source, name):
        for frame in frames:
            for place, (known, word) in enumerate(frame.columns):
                if word == name and source in (None, known):
                    return frame.row[place]
        raise AssertionError((source, name))

    def value(self, tree, frames):
        return getattr(self, "value_of_" + tree[0])(tree, frames)

    def value_of_literal(self, tree, frames):
        return tree[1]

    def value_of_parameter(self, tree, frames):
        return self.parameters[tree[1] - 1]

    def value_of_column(self, tree, frames):
        return self.column(frames, tree[1], tree[2])

    def value_of_not(self, tree, frames):
        return opposite(self.value(tree[1], frames))

    def value_of_negate(self, tree, frames):
        return calculate("-", 0, self.value(tree[1], frames))

    def value_of_binary(self, tree, frames):
        first, second = self.value(tree[2], frames), self.value(tree[3], frames)
        if tree[1] in ("and", "or"):
            return joined_truths(tree[1], first, second)
        if tree[1] in ("=", "<>", "<", "<=", ">", ">="):
            return compared(tree[1], first, second)
        return calculate(tree[1], first, second)

    def value_of_is_null(self, tree, frames):
        is_none = self.value(tree[1], frames) is None
        return not is_none if tree[2] else is_none

    def value_of_in_list(self, tree, frames):
        told = False
        for item in tree[2]:
            told = joined_truths("or", told, compared("=", self.value(tree[1], frames), self.value(item, frames)))
        return opposite(told) if tree[3] else told

    def value_of_in_query(self, tree, frames):
        value = self.value(tree[1], frames)
        values = [row[0] for row in self.rows(tree[2], frames)]
        if not values:
            told = False
        elif value is None:
            told = None
        elif any(other is not None and is_same(value, other) for other in values):
            told = True
        else:
            told = None if None in values else False
        return opposite(told) if tree[3] else told

    def value_of_exists(self, tree, frames):
        return self.rows(tree[1], frames) != []

    def value_of_scalar(self, tree, frames):
        ((value,),) = self.rows(tree[1], frames)
        return value

    def value_of_case(self, tree, frames):
        return self.value(tree[2] if self.value(tree[1], frames) is True else tree[3], frames)

    def value_of_count_all(self, tree, frames):
        return len(frames[0].group)

    def value_of_aggregate(self, tree, frames):
        columns = frames[0].columns
        values = [self.value(tree[2], [Frame(columns, row)] + frames[1:]) for row in frames[0].group]
        values = [value for value in values if value is not None]
        if tree[1] == "count":
            return len(values)
        if not values:
            return None
        if tree[1] == "sum":
            return shorten(sum(values))
        best = values[0]
        for value in values:
            if before(value, best) if tree[1] == "min" else before(best, value):
                best = value
        return best

    def names(self, query):
        if query[0] == "set":
            return self.names(query[2])
        if query[2] is None:
            return [name for known, name in self.columns(query[3])]
        return [name if name is not None else tree[2] if tree[0] == "column" else "" for tree, name in query[2]]

    def columns(self, tree):
        if tree[0] == "join":
            return self.columns(tree[1]) + self.columns(tree[2])
        known = tree[1] if tree[2] is None else tree[2]
        names = self.sources[tree[1]].columns if tree[0] == "table" else self.names(tree[1])
        return [(known, name) for name in names]

    def source_rows(self, tree, frames):
        if tree is None:
            return [()]
        if tree[0] == "table":
            return self.sources[tree[1]].rows
        if tree[0] == "subquery":
            return self.rows(tree[1], frames)
        columns, width, made = self.columns(tree), len(self.columns(tree[2])), []
        for first in self.source_rows(tree[1], frames):
            found = [first + second for second in self.source_rows(tree[2], frames)
                     if self.value(tree[3], [Frame(columns, first + second)] + frames) is True]
            made.extend(found if found or not tree[4] else [first + (None,) * width])
        return made

    def rows(self, query, frames):
        if query[0] == "set":
            first, second = self.rows(query[2], frames), self.rows(query[3], frames)
            return {"union all": lambda: first + second, "union": lambda: firsts(first + second),
                    "except": lambda: firsts([row for row in first if not among(row, second)]),
                    "intersect": lambda: firsts([row for row in first if among(row, second)])}[query[1]]()
        word, distinct, items, sources, where, group, having = query
        columns = [] if sources is None else self.columns(sources)
        made = [Frame(columns, row) for row in self.source_rows(sources, frames)]
        made = [frame for frame in made if where is None or self.value(where, [frame] + frames) is True]
        if group is not None or having is not None or self.aggregates([tree for tree, name in items or ()]):
            made = self.groups(columns, made, group, frames)
        made = [frame for frame in made if having is None or self.value(having, [frame] + frames) is True]
        if items is None:
            rows = [frame.row for frame in made]
        else:
            rows = [tuple(self.value(tree, [frame] + frames) for tree, name in items) for frame in made]
        return firsts(rows) if distinct else rows

    def groups(self, columns, made, group, frames):
        if group is None:
            rows = [frame.row for frame in made]
            return [Frame(columns, rows[0] if rows else None, rows)]
        found = []
        for frame in made:
            key = [self.value(tree, [frame] + frames) for tree in group]
            for other, there in found:
                if same_rows(key, other):
                    there.group.append(frame.row)
                    break
            else:
                found.append((key, Frame(columns, frame.row, [frame.row])))
        return [there for key, there in found]

    def aggregates(self, trees):
        for tree in trees:
            if tree[0] in ("count_all", "aggregate"):
                return True
            inner = [part for part in tree[1:] if isinstance(part, tuple) and part and part[0] not in ("select", "set")]
            if tree[0] == "in_list":
                inner = [tree[1]] + list(tree[2])
            if self.aggregates(inner):
                return True
        return False

    def answer(self, tree):
        names = self.names(tree[1])
        keys = [(key - 1 if isinstance(key, int) else names.index(key), descending) for key, descending in tree[2]]
        keys.extend([(place, False) for place in range(len(names))])

        def order(first, second):
            for place, descending in keys:
                one, two = first[place], second[place]
                if not is_same(one, two):
                    return -1 if before(one, two) != descending else 1
            return 0

        rows = sorted(self.rows(tree[1], []), key=functools.cmp_to_key(order))
        return (names, rows if tree[3] is None else rows[:tree[3]])

    def has_reasons(self, query):
        """Tells whether the query has one of the forms of point 82."""
        if query[0] == "set":
            return query[1].startswith("union") and self.has_reasons(query[2]) and self.has_reasons(query[3])
        word, distinct, items, sources, where, group, having = query
        trees = [tree for tree, name in items or ()] + [where] * (where is not None)
        if group is not None or having is not None or self.aggregates(trees) or has_inner_query(trees):
            return False
        return sources is None or self.have_reasons(sources)

    def have_reasons(self, tree):
        if tree[0] == "join":
            return not tree[4] and not has_inner_query([tree[3]]) and all(map(self.have_reasons, tree[1:3]))
        return tree[0] == "table" or self.has_reasons(tree[1])

    def entries(self, query):
        """Makes the entries of point 83."""
        if query[0] == "set":
            return self.entries(query[2]) + self.entries(query[3])
        word, distinct, items, sources, where, group, having = query
        columns, made = [] if sources is None else self.columns(sources), []
        for row, way in [((), ())] if sources is None else self.source_entries(sources):
            frames = [Frame(columns, row)]
            if where is None or self.value(where, frames) is True:
                made.append((row if items is None else tuple(self.value(tree, frames) for tree, name in items), way))
        return made

    def source_entries(self, tree):
        if tree[0] == "table":
            return [(row, ((tree[1], row[0]),)) for row in self.sources[tree[1]].rows]
        if tree[0] == "subquery":
            return self.entries(tree[1])
        columns = self.columns(tree)
        return [(one + two, way + other) for one, way in self.source_entries(tree[1])
                for two, other in self.source_entries(tree[2])
                if self.value(tree[3], [Frame(columns, one + two)]) is True]


def has_inner_query(part):
    """Tells whether there is a query anywhere in a list of expressions."""
    if not isinstance(part, (list, tuple)):
        return False
    return part[:1] in (("select",), ("set",)) or any(has_inner_query(inner) for inner in part)


class Maker:
    """Makes random questions, most of which pass the check; plain ones have one of the forms of point 82."""

    KINDS = ("integer", "text", "boolean")

    def __init__(self, chance, sources, parameters, plain=False):
        self.chance, self.sources, self.parameters, self.plain = chance, sources, parameters, plain

    def maybe(self, share):
        return self.chance.random() < share

    def question(self):
        query, columns = self.query([], self.chance.randrange(1, 4), 3)
        order = [(self.chance.randrange(1, len(columns) + 1), self.maybe(0.5)) for k in range(self.chance.randrange(3))]
        names = [name for name, kind in columns if name and [other for other, kind in columns].count(name) == 1]
        if names and self.maybe(0.5):
            order.append((self.chance.choice(names), self.maybe(0.5)))
        return ("question", query, tuple(order), self.chance.randrange(6) if self.maybe(0.2) else None)

    def query(self, around, room, many, kinds=None):
        if kinds is None:
            kinds = [self.chance.choice(self.KINDS) for k in range(self.chance.randrange(1, many + 1))]
        if self.maybe(0.25):
            first, columns = self.select(around, room - 1, kinds)
            second, others = self.query(around, room - 2, many, kinds)
            word = self.chance.choice(("union all", "union") + ("except", "intersect") * (not self.plain))
            return ("set", word, first, second), columns
        return self.select(around, room, kinds)

    def select(self, around, room, kinds):
        sources, columns = (None, []) if self.maybe(0.1) else self.sources_of(around, room)
        frame = {"columns": columns, "free": True}
        frames = [frame] + around
        where = self.expression("boolean", frames, room - 1, False) if self.maybe(0.4) else None
        group = None
        aggregates = self.maybe(0.35) and not self.plain
        if aggregates:
            frame["free"] = False
            frame["grouped"] = []
            if columns and self.maybe(0.7):
                frame["grouped"] = [self.chance.choice(columns) for k in range(self.chance.randrange(1, 3))]
                group = tuple([self.named(column) for column in frame["grouped"]])
        if kinds is None:
            kinds = [self.chance.choice(self.KINDS)]
        items = tuple([(self.expression(kind, frames, room - 1, aggregates), self.chance.choice((None, None, "p", "q")))
                       for kind in kinds])
        having = self.expression("boolean", frames, room - 1, True) if aggregates and self.maybe(0.4) else None
        names = [name if name is not None else tree[2] if tree[0] == "column" else "" for tree, name in items]
        return ("select", self.maybe(0.2), items, sources, where, group, having), list(zip(names, kinds))

    def sources_of(self, around, room):
        tree, columns, names = None, [], ["a", "b", "c"]
        for turn in range(self.chance.choice((1, 1, 1, 2, 2, 3))):
            known = names[turn]
            if room > 0 and self.maybe(0.25):
                query, told = self.query(around, room - 1, 2)
                part, more = ("subquery", query, known), [(known, name, kind) for name, kind in told if name]
            else:
                name = self.chance.choice(list(self.sources))
                source = self.sources[name]
                part = ("table", name, known)
                more = [(known, word, kind) for word, kind in zip(source.columns, source.kinds)]
            columns = columns + more
            if tree is None:
                tree = part
            else:
                tree = ("join", tree, part, self.on(columns, around, room), self.maybe(0.5) and not self.plain)
        return tree, columns

    def on(self, columns, around, room):
        frames = [{"columns": columns, "free": True}] + around
        if self.maybe(0.6):
            kind = self.chance.choice(self.KINDS)
            equal = ("binary", "=", self.expression(kind, frames, 0, False), self.expression(kind, frames, 0, False))
            if self.maybe(0.5):
                return equal
            return ("binary", "and", equal, self.expression("boolean", frames, room - 1, False))
        return self.expression("boolean", frames, room - 1, False)

    def named(self, column):
        return ("column", column[0] if self.maybe(0.8) else None, column[1])

    def expression(self, kind, frames, room, aggregates):
        if room <= 0 or self.maybe(0.2):
            return self.leaf(kind, frames)
        if aggregates and self.maybe(0.4):
            return self.aggregate(kind, frames, room)
        told = self.maybe(0.1)
        if self.maybe(0.12):
            return ("case", self.expression("boolean", frames, room - 1, aggregates),
                    self.expression(kind, frames, room - 1, aggregates),
                    self.expression(kind, frames, room - 1, aggregates))
        if self.maybe(0.15) and not self.plain:
            return self.scalar(kind, frames, room)
        if kind == "integer":
            if told:
                return ("negate", self.expression(kind, frames, room - 1, aggregates))
            word = self.chance.choice(("+", "-", "*", "/", "mod"))
            return ("binary", word, self.expression(kind, frames, room - 1, aggregates),
                    self.expression(kind, frames, room - 1, aggregates))
        if kind == "text":
            return ("binary", "||", self.expression(kind, frames, room - 1, aggregates),
                    self.expression(kind, frames, room - 1, aggregates))
        return self.truth(frames, room - 1, aggregates)

    def truth(self, frames, room, aggregates):
        way = self.chance.randrange(8)
        if self.plain and way in (4, 5):
            way = 3
        kind = self.chance.choice(self.KINDS)
        some = self.expression(kind, frames, room, aggregates)
        if way < 2:
            word = self.chance.choice(("=", "<>", "<", "<=", ">", ">="))
            return ("binary", word, some, self.expression(kind, frames, room, aggregates))
        if way == 2:
            return ("is_null", some, self.maybe(0.5))
        if way == 3:
            items = [self.expression(kind, frames, room, aggregates) for k in range(self.chance.randrange(1, 4))]
            return ("in_list", some, tuple(items), self.maybe(0.5))
        if way == 4:
            return ("in_query", some, self.query(frames, room, 1, [kind])[0], self.maybe(0.5))
        if way == 5:
            return ("exists", self.query(frames, room, 2)[0])
        one = self.expression("boolean", frames, room, aggregates)
        if way == 6:
            return ("not", one)
        return ("binary", self.chance.choice(("and", "or")), one, self.expression("boolean", frames, room, aggregates))

    def aggregate(self, kind, frames, room):
        inner = [dict(frames[0], free=True)] + frames[1:]
        if kind == "integer" and self.maybe(0.6):
            word = self.chance.choice(("count_all", "count", "sum"))
            if word == "count_all":
                return ("count_all",)
            told = "integer" if word == "sum" else self.chance.choice(self.KINDS)
            return ("aggregate", word, self.expression(told, inner, room - 1, False))
        return ("aggregate", self.chance.choice(("min", "max")), self.expression(kind, inner, room - 1, False))

    def scalar(self, kind, frames, room):
        sources, columns = self.sources_of(frames, room - 1)
        inner = [{"columns": columns, "free": False, "grouped": []}] + frames
        where = None
        if self.maybe(0.5):
            where = self.expression("boolean", [dict(inner[0], free=True)] + frames, room - 1, False)
        return ("scalar", ("select", False, ((self.aggregate(kind, inner, room), None),), sources, where, None, None))

    def leaf(self, kind, frames):
        columns = [column for frame in frames for column in (frame["columns"] if frame["free"] else frame["grouped"])
                   if column[2] == kind]
        if columns and self.maybe(0.75):
            return self.named(self.chance.choice(columns))
        if self.maybe(0.2):
            return ("literal", None)
        numbers = [place for place, value in enumerate(self.parameters) if rank(value) in {
            "integer": (3,), "text": (4,), "boolean": (1, 2)}[kind]]
        if numbers and self.maybe(0.3):
            return ("parameter", self.chance.choice(numbers) + 1)
        return ("literal",
                self.chance.choice({"integer": (0, 1, 2, 7), "text": ("", "x", "y"), "boolean": (True, False)}[kind]))


def some_sources(chance):
    """Returns a dict of three small sources with values that often are the same."""
    found = {}
    for name, columns in (("s0_t", ["id", "n", "w", "b"]), ("s0_u", ["id", "n", "m"]), ("s1_v", ["id", "w"])):
        kinds = [{"i": "text", "w": "text", "b": "boolean"}.get(column[0], "integer") for column in columns]
        values = {"integer": (None, 0, 1, 2, 3, -4), "text": (None, "", "x", "y", "xy"), "boolean": (None, False, True)}
        rows = [(f"0.1.{place}",) + tuple(chance.choice(values[kind]) for kind in kinds[1:])
                for place in range(chance.randrange(6))]
        found[name] = Source(name, columns, kinds, rows)
    return found
