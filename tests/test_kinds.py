"""Points 60 to 69: names and kinds in questions, and the order of the errors."""

import itertools
import unittest

from kithbase import errors
from kithbase.kinds import check, check_query, common, fits, kind_of
from kithbase.meaning import answer
from kithbase.parser import parse
from kithbase.sources import Source

KINDS = ("integer", "text", "boolean", "null")
OF_KIND = {"integer": "n", "text": "w", "boolean": "b", "null": "null"}
PARAMETERS = [5, "x", True, None]


def some_sources():
    return {"t": Source("t", ["id", "n", "w", "b"], ["text", "integer", "text", "boolean"], []),
            "u": Source("u", ["id", "m", "n"], ["text", "integer", "text"], []),
            "v": Source("v", ["x"], ["null"], []),
            "nothing": Source("nothing", [], [], [])}


class Checking(unittest.TestCase):
    def columns(self, text):
        return check(parse(text), some_sources(), list(PARAMETERS))

    def kind(self, text, source="t"):
        """Returns the kind of an expression over a source."""
        ((name, kind),) = self.columns(f"select {text} from {source}")
        return kind

    def refused(self, error, text, told=None):
        """Checks that the question raises the error, with the name or number that is told."""
        with self.assertRaises(errors.QuestionError, msg=text) as caught:
            self.columns(text)
        self.assertIs(type(caught.exception), error, text)
        if told is not None:
            kept = caught.exception.number if isinstance(told, int) else caught.exception.name
            self.assertEqual(kept, told, text)
        with self.assertRaises(error):
            answer(parse(text), some_sources(), list(PARAMETERS))

    def mismatch(self, text):
        self.refused(errors.KindMismatch, f"select {text} from t")


class Kinds(unittest.TestCase):
    def test_kind_of(self):
        for value, kind in ((None, "null"), (True, "boolean"), (False, "boolean"), (0, "integer"),
                            (-10 ** 40, "integer"), ("", "text"), ("a", "text")):
            self.assertEqual(kind_of(value), kind)

    def test_fits_and_common(self):
        for first, second in itertools.product(KINDS, repeat=2):
            expected = first == second or "null" in (first, second)
            self.assertIs(fits(first, second), expected)
            if expected:
                self.assertEqual(common(first, second), second if first == "null" else first)


class Sources(Checking):
    def test_the_columns_of_a_table(self):
        kinds = [("id", "text"), ("n", "integer"), ("w", "text"), ("b", "boolean")]
        self.assertEqual(self.columns("select * from t"), kinds)
        self.assertEqual(self.columns("select * from t x"), kinds)
        self.assertEqual(self.columns("select x.n, b, x.b from t x"),
                         [("n", "integer"), ("b", "boolean"), ("b", "boolean")])

    def test_an_unknown_table(self):
        self.refused(errors.UnknownTable, "select 1 from x", "x")
        self.refused(errors.UnknownTable, "select 1 from x y", "x")
        self.refused(errors.UnknownTable, "select 1 from t join x on true", "x")
        self.refused(errors.UnknownTable, "select 1 from x join y on true", "x")
        self.refused(errors.UnknownTable, "select 1 where exists (select 1 from y)", "y")
        self.refused(errors.UnknownTable, "select 1 from (select 1 from y) t", "y")

    def test_a_source_twice(self):
        self.refused(errors.DuplicateSource, "select 1 from t join t on true", "t")
        self.refused(errors.DuplicateSource, "select 1 from t x join u x on true", "x")
        self.refused(errors.DuplicateSource, "select 1 from t join u t on true", "t")
        self.refused(errors.DuplicateSource, "select 1 from t join (select 1) t on true", "t")
        self.refused(errors.DuplicateSource, "select 1 from t join u on true join t on true", "t")
        self.refused(errors.DuplicateSource, "select 1 from t join u on true join v u on true", "u")
        self.columns("select 1 from t join t x on true")
        self.columns("select 1 from t x join t on true")
        self.columns("select 1 from t where exists (select 1 from t)")
        self.columns("select 1 from t join (select 1 from t) q on true")

    def test_a_source_without_columns_twice(self):
        self.refused(errors.DuplicateSource, "select 1 from nothing join nothing on true", "nothing")
        self.refused(errors.DuplicateSource, "select 1 from t join nothing on true join u nothing on true", "nothing")

    def test_the_first_such_source_of_the_left_side(self):
        left = ("join", ("table", "t", "a"), ("table", "t", "b"), ("literal", True), False)
        right = ("join", ("table", "u", "b"), ("table", "u", "a"), ("literal", True), False)
        tree = ("select", False, ((("literal", 1), None),), ("join", left, right, ("literal", True), False), None, None,
                None)
        with self.assertRaises(errors.DuplicateSource) as caught:
            check_query(tree, some_sources(), [])
        self.assertEqual(caught.exception.name, "a")

    def test_the_order_of_a_join(self):
        self.refused(errors.UnknownTable, "select 1 from x join y on true", "x")
        self.refused(errors.UnknownTable, "select 1 from t join x t on 1", "x")
        self.refused(errors.DuplicateSource, "select 1 from t join t on 1", "t")
        self.refused(errors.UnknownTable, "select 1 from t join x on 1 join t on true", "x")
        self.refused(errors.DuplicateSource, "select 1 from t join t on true join x on true", "t")
        self.refused(errors.KindMismatch, "select 1 from t join u on 1 join x on true")
        self.refused(errors.UnknownColumn, "select 1 from t join (select z) q on 1", "z")

    def test_a_condition_must_be_a_boolean(self):
        for text in ("1", "'a'", "t.n", "t.w", "1 + 1"):
            self.refused(errors.KindMismatch, f"select 1 from t join u on {text}")
            self.refused(errors.KindMismatch, f"select 1 from t left join u on {text}")
        for text in ("null", "true", "b", "t.n = m", "$3", "$4"):
            self.columns(f"select 1 from t join u on {text}")

    def test_what_a_condition_sees(self):
        self.columns("select 1 from t join u on t.id = u.id join v on m is null")
        self.refused(errors.UnknownColumn, "select 1 from t join u on x is null join v on true", "x")
        self.refused(errors.UnknownColumn, "select 1 from t join u on v.x is null join v on true", "v.x")
        self.columns("select 1 from t join u on true join v on x is null and b and m = 1")
        self.columns("select (select max(u.m) from u join v on t.b) from t")
        self.refused(errors.AmbiguousColumn, "select 1 from t join u on n is null", "n")
        # The two sides stand in place of the select, so a query in a condition sees them alone.
        self.columns("select 1 from t join u on exists (select 1 from v where t.n = u.m)")
        self.refused(errors.UnknownColumn, "select 1 from t join u on exists (select z.x) join v z on true", "z.x")

    def test_what_a_query_in_from_sees(self):
        self.refused(errors.UnknownColumn, "select 1 from t join (select t.n) q on true", "t.n")
        self.refused(errors.UnknownColumn, "select 1 from t join (select m from v) q on true", "m")
        self.refused(errors.UnknownColumn, "select 1 from (select q.x from v) q", "q.x")
        self.columns("select (select max(q.x) from (select t.n as x) q) from t")
        self.columns("select (select max(q.x) from v join (select t.n as x) q on true) from t")
        # The select in whose `from` it stands is not seen either, but the one around that is.
        self.refused(errors.UnknownColumn, "select exists (select 1 from u join (select u.m) q on true) from t", "u.m")
        self.assertEqual(self.columns("select exists (select 1 from u join (select n) q on true) from t"),
                         [("", "boolean")])

    def test_the_columns_of_a_query(self):
        self.assertEqual(self.columns("select * from (select n as x, w, b, n + 1 from t) q"),
                         [("x", "integer"), ("w", "text"), ("b", "boolean"), ("", "integer")])
        self.assertEqual(self.columns("select q.x, x from (select n as x from t) q"), [("x", "integer")] * 2)
        self.refused(errors.UnknownColumn, "select n from (select n as x from t) q", "n")
        self.refused(errors.UnknownColumn, "select t.n from (select n from t) q", "t.n")
        self.refused(errors.AmbiguousColumn, "select x from (select 1 as x, 2 as x) q", "x")
        self.refused(errors.AmbiguousColumn, "select q.x from (select 1 as x, 2 as x) q", "x")
        self.columns("select * from (select 1 as x, 2 as x) q")

    def test_a_name_of_a_table_with_an_alias(self):
        self.refused(errors.UnknownColumn, "select t.n from t x", "t.n")
        self.columns("select t.m from u t")


class Columns(Checking):
    def test_in_no_scope(self):
        self.refused(errors.UnknownColumn, "select z from t", "z")
        self.refused(errors.UnknownColumn, "select t.z from t", "t.z")
        self.refused(errors.UnknownColumn, "select z.n from t", "z.n")
        self.refused(errors.UnknownColumn, "select n", "n")
        self.refused(errors.UnknownColumn, "select n where exists (select n from t)", "n")

    def test_in_two_sources(self):
        self.refused(errors.AmbiguousColumn, "select id from t join u on true", "id")
        self.columns("select t.id, u.id, w, m from t join u on true")
        self.refused(errors.AmbiguousColumn, "select t.id from t join u on true where n is null", "n")

    def test_the_innermost_scope_decides(self):
        self.assertEqual(self.columns("select w in (select n from u) from t"), [("", "boolean")])
        self.refused(errors.KindMismatch, "select n in (select n from u) from t")
        self.columns("select n in (select t.n from u) from t")
        self.refused(errors.AmbiguousColumn, "select exists (select id from t join u on true) from v", "id")
        self.refused(errors.AmbiguousColumn, "select exists (select 1 from v where id is null) from t join u on true",
                     "id")
        self.columns("select exists (select id from v join t on true) from t join u on true")

    def test_a_source_that_has_no_such_column(self):
        # The source t of the inner select has no column m, so the one around is meant.
        self.columns("select exists (select t.m from t) from u t")
        self.assertEqual(self.columns("select (select max(t.m) from t) from u t"), [("", "integer")])
        self.refused(errors.UnknownColumn, "select exists (select t.x from t) from u t", "t.x")

    def test_two_scopes_around(self):
        self.columns("select exists (select exists (select 1 from v where b and m = 1 and x is null) from u) from t")
        self.columns("select 1 from t where b in (select b from u where m in (select m from v where b))")

    def test_where_a_select_has_no_sources(self):
        self.assertEqual(self.columns("select exists (select n) from t"), [("", "boolean")])


class Operators(Checking):
    def test_arithmetic(self):
        for operator in ("+", "-", "*", "/", "mod"):
            for first, second in itertools.product(KINDS, repeat=2):
                text = f"{OF_KIND[first]} {operator} {OF_KIND[second]}"
                if fits(first, "integer") and fits(second, "integer"):
                    self.assertEqual(self.kind(text), "integer")
                else:
                    self.mismatch(text)

    def test_texts_and_truths(self):
        for operator, needed in (("||", "text"), ("and", "boolean"), ("or", "boolean")):
            for first, second in itertools.product(KINDS, repeat=2):
                text = f"{OF_KIND[first]} {operator} {OF_KIND[second]}"
                if fits(first, needed) and fits(second, needed):
                    self.assertEqual(self.kind(text), needed)
                else:
                    self.mismatch(text)

    def test_comparisons(self):
        for operator in ("=", "<>", "<", "<=", ">", ">="):
            for first, second in itertools.product(KINDS, repeat=2):
                text = f"{OF_KIND[first]} {operator} {OF_KIND[second]}"
                if fits(first, second):
                    self.assertEqual(self.kind(text), "boolean")
                else:
                    self.mismatch(text)

    def test_prefixes(self):
        for kind in KINDS:
            for prefix, needed in (("-", "integer"), ("not", "boolean")):
                text = f"{prefix} {OF_KIND[kind]}"
                if fits(kind, needed):
                    self.assertEqual(self.kind(text), needed)
                else:
                    self.mismatch(text)

    def test_is_null(self):
        for kind in KINDS:
            self.assertEqual(self.kind(f"{OF_KIND[kind]} is null"), "boolean")
            self.assertEqual(self.kind(f"{OF_KIND[kind]} is not null"), "boolean")

    def test_in_list(self):
        for first, second in itertools.product(KINDS, repeat=2):
            text = f"{OF_KIND[first]} in ({OF_KIND[first]}, {OF_KIND[second]})"
            if fits(first, second):
                self.assertEqual(self.kind(text), "boolean")
            else:
                self.mismatch(text)
        # Each item is compared with the operand, not with the other items.
        self.assertEqual(self.kind("null in (n, w, b)"), "boolean")
        self.assertEqual(self.kind("n not in (null, 1, null)"), "boolean")
        self.mismatch("n in (null, w)")

    def test_in_query(self):
        for first, second in itertools.product(KINDS, repeat=2):
            text = f"{OF_KIND[first]} in (select {OF_KIND[second]} from t)"
            if fits(first, second):
                self.assertEqual(self.kind(text), "boolean")
            else:
                self.mismatch(text)
        self.refused(errors.ColumnCount, "select n in (select 1, 2) from t")
        self.refused(errors.ColumnCount, "select n in (select w, b from t) from t")
        self.refused(errors.ColumnCount, "select n in (select * from nothing) from t")
        self.assertEqual(self.kind("n in (select * from v)"), "boolean")
        self.mismatch("n not in (select w from t)")

    def test_exists(self):
        for text in ("select 1, 2", "select * from t", "select * from nothing", "select 1 union select 2",
                     "select null"):
            self.assertEqual(self.kind(f"exists ({text})"), "boolean")

    def test_scalar(self):
        for text, kind in (("count(*)", "integer"), ("max(n)", "integer"), ("min(w)", "text"), ("max(b)", "boolean"),
                           ("max(null)", "null"), ("1 + count(n)", "integer"),
                           ("case when count(*) = 1 then 'a' else 'b' end", "text"), ("count(*) in (1, 2)", "boolean"),
                           ("1 in (0, count(*))", "boolean"), ("not count(*) is null", "boolean"),
                           ("- sum(n)", "integer"), ("count(*) in (select 1)", "boolean")):
            self.assertEqual(self.kind(f"(select {text} from t)"), kind)
        self.assertEqual(self.kind("(select distinct count(*) where false)"), "integer")

    def test_scalar_with_several_columns(self):
        for text in ("select 1, 2", "select * from t", "select count(*), count(*)", "select 1, 2 union select 3, 4",
                     "select count(*), n from t group by n", "select * from nothing"):
            self.refused(errors.ColumnCount, f"select ({text})")

    def test_scalar_without_one_row_for_sure(self):
        for text in ("select 1", "select n from t", "select * from v", "select count(*) union select count(*)",
                     "select count(*) from t group by n", "select count(*) from t having true", "select 1 having true",
                     "select (select count(*) from t)", "select exists (select count(*))",
                     "select 1 in (select count(*))", "select 1 where exists (select max(n) from t)",
                     "select n from (select count(*) as n) q"):
            self.refused(errors.RowCount, f"select ({text})")

    def test_case(self):
        for kind in KINDS:
            text = f"case when {OF_KIND[kind]} then 1 else 2 end"
            if fits(kind, "boolean"):
                self.assertEqual(self.kind(text), "integer")
            else:
                self.mismatch(text)
        for first, second in itertools.product(KINDS, repeat=2):
            text = f"case when true then {OF_KIND[first]} else {OF_KIND[second]} end"
            if fits(first, second):
                self.assertEqual(self.kind(text), common(first, second))
            else:
                self.mismatch(text)

    def test_parameters(self):
        for number, kind in ((1, "integer"), (2, "text"), (3, "boolean"), (4, "null")):
            self.assertEqual(self.kind(f"${number}"), kind)
        for number in (0, 5, 99):
            self.refused(errors.UnknownParameter, f"select ${number}", number)
        self.refused(errors.UnknownParameter, "select $00", 0)
        with self.assertRaises(errors.UnknownParameter) as caught:
            check(parse("select $1"), {}, [])
        self.assertEqual(caught.exception.number, 1)
        self.assertEqual(check(parse("select $1"), {}, ("a",)), [("", "text")])


class Order(Checking):
    """Which one of two errors is raised."""

    def test_operands_from_left_to_right(self):
        for operator in ("or", "and", "=", "<", "+", "-", "*", "/", "mod", "||"):
            self.refused(errors.UnknownColumn, f"select y {operator} z from t", "y")
            self.refused(errors.UnknownParameter, f"select $9 {operator} z from t", 9)
            self.refused(errors.UnknownColumn, f"select z {operator} $9 from t", "z")

    def test_operands_before_the_operator(self):
        for operator in ("or", "and", "+", "-", "*", "/", "mod", "||"):
            wrong = "1" if operator in ("or", "and", "||") else "'a'"
            self.refused(errors.UnknownColumn, f"select {wrong} {operator} z", "z")
        self.refused(errors.UnknownColumn, "select not (1 + z)", "z")
        self.refused(errors.KindMismatch, "select (1 + 'a') + z")
        self.refused(errors.KindMismatch, "select 1 || 'a' = z")

    def test_items_before_they_are_compared(self):
        self.refused(errors.UnknownColumn, "select 1 in ('a', z)", "z")
        self.refused(errors.UnknownColumn, "select y in ('a', z)", "y")
        self.refused(errors.KindMismatch, "select 1 in ('a' + 1, z)")
        self.refused(errors.UnknownColumn, "select 1 in (y, z)", "y")

    def test_queries(self):
        self.refused(errors.UnknownColumn, "select z in (select 1, 2)", "z")
        self.refused(errors.UnknownColumn, "select 1 in (select 'a', z)", "z")
        self.refused(errors.ColumnCount, "select 1 in (select 'a', 'b')")
        self.refused(errors.UnknownColumn, "select (select 1, z)", "z")
        self.refused(errors.ColumnCount, "select (select 1, 2)")
        self.refused(errors.RowCount, "select 1 + (select 'a')")

    def test_case(self):
        self.refused(errors.KindMismatch, "select case when 1 then z else z end")
        self.refused(errors.UnknownColumn, "select case when x then y else z end", "x")
        self.refused(errors.UnknownColumn, "select case when true then y else z end", "y")
        self.refused(errors.UnknownColumn, "select case when true then 1 else z end", "z")
        self.refused(errors.UnknownColumn, "select case when true then 1 else 'a' || z end", "z")

    def test_the_parts_of_a_select(self):
        parts = ["from x", "where $5", "group by $6", "having $7"]
        told = [(errors.UnknownTable, "x"), (errors.UnknownParameter, 5), (errors.UnknownParameter, 6),
                (errors.UnknownParameter, 8), (errors.UnknownParameter, 7)]
        for place in range(5):
            # Before this place, nothing is wrong.
            made = ["from t" if place > 0 else parts[0], "where true" if place > 1 else parts[1],
                    "group by n" if place > 2 else parts[2], "having true" if place > 4 else parts[3]]
            shown = "n" if place > 3 else "$8"
            error, kept = told[place]
            self.refused(error, f"select {shown} " + " ".join(made), kept)

    def test_the_list_from_left_to_right(self):
        self.refused(errors.UnknownColumn, "select n, y, z from t", "y")

    def test_grouping_comes_before_the_list(self):
        self.refused(errors.GroupingNotAllowed, "select z from t group by n + 1")
        self.refused(errors.KindMismatch, "select 1 from t where 1 group by n + 1")

    def test_set_operators(self):
        self.refused(errors.UnknownColumn, "select y union select z", "y")
        self.refused(errors.UnknownColumn, "select 1, 2 union select z", "z")
        self.refused(errors.ColumnCount, "select 1, 'a' union select 'a'")
        self.refused(errors.KindMismatch, "select 1 union select 'a' union select z")

    def test_keys_come_last(self):
        self.refused(errors.UnknownColumn, "select z order by 9", "z")
        self.refused(errors.UnknownPosition, "select 1 order by 9, y", 9)
        self.refused(errors.UnknownColumn, "select 1 order by y, 9", "y")


class Aggregates(Checking):
    def test_kinds(self):
        for kind in KINDS:
            word = OF_KIND[kind]
            self.assertEqual(self.kind(f"count({word})"), "integer")
            self.assertEqual(self.kind(f"min({word})"), kind)
            self.assertEqual(self.kind(f"max({word})"), kind)
            if fits(kind, "integer"):
                self.assertEqual(self.kind(f"sum({word})"), "integer")
            else:
                self.mismatch(f"sum({word})")
        self.assertEqual(self.kind("count(*)"), "integer")
        self.refused(errors.UnknownColumn, "select sum(z) from t", "z")

    def test_where_they_cannot_stand(self):
        for text in ("count(*)", "count(n)", "sum(n)", "min(n)", "max(n)"):
            for place in (f"select 1 from t where {text} = 1", f"select 1 from t join v on {text} = 1",
                          f"select 1 from t group by {text}", f"select sum({text}) from t",
                          f"select count(1 + {text}) from t",
                          f"select max(case when true then 1 else {text} end) from t",
                          f"select 1 from t having sum({text}) = 1",
                          f"select (select count(*) from v where {text} = 1) from t"):
                self.refused(errors.AggregateNotAllowed, place)

    def test_before_the_operand_is_checked(self):
        for text in ("sum(z)", "sum('a')", "count(z)", "max($9)"):
            self.refused(errors.AggregateNotAllowed, f"select 1 from t where {text} = 1")
            self.refused(errors.AggregateNotAllowed, f"select max({text}) from t")
            self.refused(errors.AggregateNotAllowed, f"select 1 from t group by {text}")

    def test_operators_around_them(self):
        self.refused(errors.AggregateNotAllowed, "select 1 from t where 1 + count(*)")
        self.refused(errors.UnknownColumn, "select 1 from t where z + count(*)", "z")
        self.refused(errors.AggregateNotAllowed, "select 1 from t where count(*) + z")

    def test_in_queries_inside(self):
        for text in ("select 1 from t where n in (select max(m) from u)", "select sum((select max(m) from u)) from t",
                     "select count((select count(*) from u)) from t",
                     "select 1 from t where (select sum(t.n) from u) = 1",
                     "select 1 from t join u on exists (select count(*))",
                     "select max((select sum(t.n) from u)) from t",
                     "select 1 from t where exists (select 1 from u having count(*) = 1)"):
            self.columns(text)
        self.refused(errors.GroupingNotAllowed, "select 1 from t group by (select count(*) from u)")

    def test_behind_an_aggregate(self):
        # The operand of one aggregate does not change what may stand behind it.
        self.columns("select sum(n) + count(*), max(n) from t having min(n) = count(n)")
        self.refused(errors.NotGrouped, "select sum(n) + n from t", "n")
        self.refused(errors.NotGrouped, "select (select max(x) from v) + sum(n) + n from t", "n")


class Grouping(Checking):
    def test_what_is_grouped_by(self):
        self.columns("select n, t.w from t group by t.n, w, n")
        self.columns("select 1 from t group by b")
        for text in ("n + 1", "1", "- n", "(select count(*) from u)", "n is null", "$1"):
            self.refused(errors.GroupingNotAllowed, f"select 1 from t group by {text}")
            self.refused(errors.GroupingNotAllowed, f"select 1 from t group by n, {text}")
        self.refused(errors.UnknownColumn, "select 1 from t group by n + 1, z", "z")
        self.refused(errors.UnknownColumn, "select 1 from t group by 1 + z", "z")
        self.refused(errors.KindMismatch, "select 1 from t group by 1, n + 'a'")

    def test_a_column_of_a_select_around(self):
        self.refused(errors.GroupingNotAllowed, "select exists (select 1 from u group by t.n) from t")
        self.refused(errors.GroupingNotAllowed, "select exists (select 1 from u group by m, b) from t")
        self.columns("select exists (select 1 from u group by n) from t")

    def test_columns_that_are_not_grouped(self):
        for text, name in (("select n from t group by w", "n"), ("select t.n from t group by w", "n"),
                           ("select count(*), n from t", "n"), ("select w || w, n from t group by w", "n"),
                           ("select count(*) from t having b", "b"), ("select 1 from t having n = 1", "n"),
                           ("select n from t having true", "n"), ("select w from t group by w having n = 1", "n"),
                           ("select count(*) + n from t", "n"), ("select n + count(*) from t", "n")):
            self.refused(errors.NotGrouped, text, name)

    def test_columns_that_are_grouped(self):
        for text in ("select n + count(*), max(w) from t group by n", "select n from t group by t.n",
                     "select t.n from t group by n", "select x.n from t x group by n having x.n = 1",
                     "select sum(n) from t group by w having min(b)", "select 1 from t group by n",
                     "select 1 from t having true", "select count(*) from t having max(b)"):
            self.columns(text)

    def test_the_same_name_in_two_sources(self):
        self.columns("select t.n from t join u on true group by t.n")
        self.refused(errors.NotGrouped, "select u.n from t join u on true group by t.n", "n")
        self.refused(errors.AmbiguousColumn, "select n from t join u on true group by t.n", "n")

    def test_in_queries_inside(self):
        self.refused(errors.NotGrouped, "select count(*), (select max(m) from u where b) from t", "b")
        self.refused(errors.NotGrouped, "select n from t group by n having exists (select 1 from u where t.w = u.n)",
                     "w")
        self.refused(errors.NotGrouped, "select count(*), (select sum(t.n) from u) from t", "n")
        self.refused(errors.NotGrouped, "select count(*), exists (select 1 from (select b) q) from t", "b")
        self.refused(errors.NotGrouped, "select count(*), exists (select 1 from u join v on b) from t", "b")
        self.refused(errors.NotGrouped, "select max(n), exists (select exists (select b)) from t", "b")
        self.columns("select n, (select max(m) from u where t.n = 1) from t group by n")
        self.columns("select n, (select sum(t.n) from u) from t group by n")

    def test_in_queries_inside_of_an_aggregate(self):
        self.columns("select sum((select max(m) from u where t.b)) from t")
        self.columns("select count(*), max((select sum(t.n) from u)) from t group by w")
        self.refused(errors.NotGrouped, "select max((select sum(m) + m from u)) from t", "m")
        self.refused(errors.NotGrouped, "select sum((select max(m) from u where t.b)) + n from t", "n")

    def test_elsewhere_columns_are_free(self):
        self.columns("select count(*) from t where n = 1 and exists (select 1 from u where t.b)")
        self.columns("select count(*) from t join u on t.n = m")
        self.columns("select max(n) from t where b group by w")

    def test_in_a_select_that_does_not_group(self):
        self.columns("select n, (select count(*) from u) from t")
        self.columns("select n, exists (select max(w) from u having count(*) = 1) from t")
        self.refused(errors.NotGrouped, "select n, exists (select m from u having count(*) = 1) from t", "m")
        self.columns("select n, exists (select w from u having t.b) from t")

    def test_where_and_having_must_be_booleans(self):
        for text in ("1", "'a'", "count(*)", "max(n)"):
            self.refused(errors.KindMismatch, f"select 1 from t having {text}")
        for text in ("1", "'a'", "n", "w"):
            self.refused(errors.KindMismatch, f"select 1 from t where {text}")
        for text in ("null", "true", "b"):
            self.columns(f"select n from t where {text}")
        for text in ("null", "true", "max(b)", "count(*) = 1"):
            self.columns(f"select 1 from t having {text}")


class Stars(Checking):
    def test_with_grouping(self):
        self.refused(errors.NothingToShow, "select * from t group by n")
        self.refused(errors.NothingToShow, "select * from t having true")
        self.refused(errors.NothingToShow, "select * from t having z")
        self.refused(errors.NothingToShow, "select * having true")
        self.refused(errors.UnknownColumn, "select * from t group by z", "z")
        self.refused(errors.GroupingNotAllowed, "select * from t group by 1")
        self.refused(errors.KindMismatch, "select * from t where 1 group by n")

    def test_without_sources(self):
        self.refused(errors.NothingToShow, "select *")
        self.refused(errors.NothingToShow, "select * where true")
        self.refused(errors.UnknownColumn, "select * where z", "z")
        self.refused(errors.KindMismatch, "select * where 1")
        self.refused(errors.GroupingNotAllowed, "select * group by 1")
        self.refused(errors.NothingToShow, "select exists (select *) from t")

    def test_all_columns(self):
        told = [("id", "text"), ("m", "integer"), ("n", "text"), ("x", "null")]
        self.assertEqual(self.columns("select * from u join v on true"), told)
        self.assertEqual(self.columns("select * from u left join v on true"), told)
        self.assertEqual(self.columns("select distinct * from (select 1, n as n, w from t) q"),
                         [("", "integer"), ("n", "integer"), ("w", "text")])
        self.assertEqual(self.columns("select * from nothing"), [])


class Answers(Checking):
    def test_names_of_columns(self):
        for text, name in (("n", "n"), ("t.n", "n"), ("n as x", "x"), ("t.n as id", "id"), ("n + 1", ""), ("(n)", "n"),
                           ("1", ""), ("- n", ""), ("count(*)", ""), ("count(*) as many", "many"), ("$1", ""),
                           ("max(n)", ""), ("(select max(m) from u)", "")):
            self.assertEqual(self.columns(f"select {text} from t")[0][0], name)

    def test_set_operators(self):
        for word in ("union all", "union", "except", "intersect"):
            told = [("x", "integer"), ("", "text"), ("z", "boolean"), ("w", "null")]
            text = f"select 1 as x, null, null as z, null as w {word} select null as a, 'a', true, null"
            self.assertEqual(self.columns(text), told)
            self.refused(errors.ColumnCount, f"select 1 {word} select 1, 2")
            self.refused(errors.ColumnCount, f"select 1, 2 {word} select 1")
            self.refused(errors.KindMismatch, f"select 1, 'a' {word} select 2, 3")
            self.refused(errors.KindMismatch, f"select true {word} select 1")
        self.refused(errors.KindMismatch, "(select null union select 1) union select 'a'")
        self.assertEqual(self.columns("select null union select null"), [("", "null")])
        self.assertEqual(self.columns("select * from t except select * from t where n = 1"),
                         self.columns("select * from t"))

    def test_keys(self):
        self.columns("select n, n as x, w from t order by 1, 2 desc, 3, x, w desc, n, n")
        for text, number in (("0", 0), ("3", 3), ("1, 4", 4), ("00", 0), ("9" * 30, 10 ** 30 - 1)):
            self.refused(errors.UnknownPosition, f"select n, w from t order by {text}", number)
        for text, name in (("z", "z"), ("n, y", "y"), ("b", "b"), ("t", "t")):
            self.refused(errors.UnknownColumn, f"select n, w from t order by {text}", name)
        self.refused(errors.AmbiguousColumn, "select n, n from t order by n", "n")
        self.refused(errors.AmbiguousColumn, "select n as x, w as x from t order by 1, x", "x")
        self.refused(errors.UnknownColumn, "select n as x from t order by n", "n")
        self.refused(errors.UnknownColumn, "select 1 as x union select 2 as y order by y", "y")
        self.columns("select 1 as x union select 2 as y order by x limit 0")
        self.refused(errors.UnknownPosition, "select * from nothing order by 1", 1)

    def test_a_query_alone(self):
        tree = parse("select n as x, w from t order by 9 limit 0")
        self.assertEqual(check_query(tree[1], some_sources(), []), [("x", "integer"), ("w", "text")])


class Given(Checking):
    def test_nothing_is_changed(self):
        sources, parameters = some_sources(), list(PARAMETERS)
        tree = parse("select t.n, count(*) from t join u on t.id = u.id where b and $3 group by t.n order by 1")
        before = (repr(tree), list(parameters), {name: vars(sources[name]).copy() for name in sources})
        columns = check(tree, sources, parameters)
        columns.clear()
        self.assertEqual(check(tree, sources, parameters), [("n", "integer"), ("", "integer")])
        self.assertEqual((repr(tree), parameters, {name: vars(sources[name]) for name in sources}), before)

    def test_trees_that_are_100_deep(self):
        one, table = ("literal", 1), ("table", "t", None)

        def select(*items, sources=None, where=None, having=None):
            return ("select", False, tuple([(item, "c") for item in items]), sources, where, None, having)

        def grown(tree, form):
            for depth in range(100):
                tree = form(tree)
            return tree

        expressions = [
            (one, lambda part: ("negate", part)), (one, lambda part: ("binary", "+", part, one)),
            (one, lambda part: ("binary", "-", one, part)), (one, lambda part: ("case", ("literal", True), part, one)),
            (("literal", True), lambda part: ("not", part)), (("literal", True), lambda part: ("is_null", part, False)),
            (("literal", True), lambda part: ("in_list", part, (("literal", True),), False)),
            (one, lambda part: ("scalar", select(("aggregate", "max", part), sources=table))),
            (("literal", True), lambda part: ("exists", select(one, sources=table, where=part))),
            (("literal", True), lambda part: ("exists", select(one, having=part))),
            (("literal", True), lambda part: ("in_query", part, select(("literal", True)), True)),
            (("literal", True), lambda part: ("in_query", ("literal", True), select(part), True))]
        for start, form in expressions:
            self.assertEqual(len(check_query(select(grown(start, form)), some_sources(), [])), 1)
        queries = [lambda query: select(("column", "q", "c"), sources=("subquery", query, "q")),
                   lambda query: ("set", "union", query, select(one)),
                   lambda query: ("set", "except", select(one), query),
                   lambda query: select(
                       one, sources=("join", table, ("subquery", query, "q"), ("literal", True), True))]
        for form in queries:
            self.assertEqual(check_query(grown(select(one), form), some_sources(), [])[0][1], "integer")


if __name__ == "__main__":
    unittest.main()
