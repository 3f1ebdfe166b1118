"""Points 70 to 78: what questions mean."""

import itertools
import random
import time
import unittest

from kithbase.errors import KindMismatch, QuestionError
from kithbase.kinds import check
from kithbase.meaning import answer, query_rows
from kithbase.parser import parse
from kithbase.sources import Source
from oracle import Maker, Oracle, some_sources

GREAT = 10 ** 40
T = [("a", 1, "x", True), ("b", 2, "y", False), ("c", None, "x", None), ("d", 1, None, True)]
U = [("k", 1), ("l", 1), ("m", 3), ("n", None)]


def tables(**more):
    found = {"t": Source("t", ["id", "n", "w", "b"], ["text", "integer", "text", "boolean"], T),
             "u": Source("u", ["key", "m"], ["text", "integer"], U),
             "empty": Source("empty", ["id", "n"], ["text", "integer"], [])}
    for name, (columns, kinds, rows) in more.items():
        found[name] = Source(name, columns, kinds, rows)
    return found


class Asking(unittest.TestCase):
    def rows(self, text, *parameters, **more):
        """Returns the rows of a query, in the order in which they are made."""
        tree, sources = parse(text), tables(**more)
        check(tree, sources, list(parameters))
        return query_rows(tree[1], sources, list(parameters))

    def value(self, text, *parameters):
        """Returns the value of an expression."""
        ((value,),) = self.rows("select " + text, *parameters)
        return value

    def values(self, text, **more):
        """Returns the values of the only column of a query."""
        return [value for (value,) in self.rows(text, **more)]

    def told(self, text, *parameters, **more):
        return answer(parse(text), tables(**more), list(parameters))

    def alike(self, first, second):
        """Checks that the values are equal and of equal kinds, so that True is not 1."""
        self.assertEqual(repr(first), repr(second))


class Expressions(Asking):
    def test_literals_and_parameters(self):
        self.alike(self.rows("select 7, 'a', null, true, false, $1, $3", "x", 0, -5),
                   [(7, "a", None, True, False, "x", -5)])
        self.alike(self.rows("select $1, $2, $3, $2", None, True, GREAT - 1), [(None, True, GREAT - 1, True)])

    def test_arithmetic(self):
        for text, value in (("7 + 2 * 3", 13), ("7 - 2 - 3", 2), ("- 7 / 2", -3), ("7 / - 2", -3), ("- 7 mod 2", -1),
                            ("7 mod - 2", 1), ("- (7 / 2)", -3), ("- - 5", 5), ("1 / 0", None), ("1 mod 0", None),
                            ("1 + null", None), ("- null", None), ("'a' || 'b' || ''", "ab"), ("'a' || null", None)):
            self.alike(self.value(text), value)

    def test_great_results(self):
        most = GREAT - 1
        for text, value in (("$1 + 0", most), ("$1 + 1", None), ("$2 - 1", None), ("- $1", -most), ("- $2", most),
                            ("$1 - - 1", None), ("$1 * 2", None), ("- $3", None), ("$3 - 1", most), ("$3 / 1", None),
                            ("$3", GREAT), ("$3 mod 7", GREAT - GREAT // 7 * 7), ("($1 + 1) is null", True),
                            ("$3 > $1", True)):
            self.alike(self.value(text, most, -most, GREAT), value)

    def test_long_texts(self):
        self.assertEqual(self.value("$1 || $2", "a" * 1999, "b"), "a" * 1999 + "b")
        self.assertIsNone(self.value("$1 || $2", "a" * 1999, "bc"))

    def test_comparisons(self):
        for text, value in (("1 < 2", True), ("'b' < 'a'", False), ("false < true", True), ("1 = 1", True),
                            ("1 <> 1", False), ("null = null", None), ("null <> 1", None), ("'a' >= null", None),
                            ("true = true", True), ("'10' < '9'", True), ("1 = 1 = true", True), ("'' <= ' '", True)):
            self.alike(self.value(text), value)

    def test_truths(self):
        told = {"true": True, "false": False, "null": None}
        for first, second in itertools.product(told, repeat=2):
            both = [told[first], told[second]]
            conjunction = False if False in both else None if None in both else True
            disjunction = True if True in both else None if None in both else False
            self.alike(self.value(f"{first} and {second}"), conjunction)
            self.alike(self.value(f"{first} or {second}"), disjunction)
        self.alike([self.value("not " + word) for word in told], [False, True, None])

    def test_where_an_operand_is_not_needed(self):
        self.alike(self.value("false and 1 / 0 = 1"), False)
        self.alike(self.value("1 / 0 = 1 and false"), False)
        self.alike(self.value("1 / 0 = 1 or true"), True)
        self.alike(self.value("true or 1 / 0 = 1"), True)
        self.alike(self.value("case when true then 1 else 1 / 0 end"), 1)

    def test_is_null(self):
        for text, value in (("null is null", True), ("null is not null", False), ("1 is null", False),
                            ("false is not null", True), ("0 is null", False), ("'' is null", False),
                            ("(null = 1) is null", True)):
            self.alike(self.value(text), value)

    def test_in_a_list(self):
        for text, value in (("1 in (1, 2)", True), ("3 in (1, 2)", False), ("3 in (1, null)", None),
                            ("1 in (null, 1)", True), ("null in (1, 2)", None), ("null in (null)", None),
                            ("true in (false, true)", True), ("'a' in ('A')", False)):
            self.alike(self.value(text), value)
            self.alike(self.value(text.replace(" in ", " not in ")), None if value is None else not value)

    def test_in_a_query(self):
        for text, value in (("1 in (select m from u)", True), ("3 in (select m from u)", True),
                            ("9 in (select m from u)", None), ("9 in (select m from u where m > 0)", False),
                            ("1 in (select m from u where m > 0)", True), ("null in (select m from u)", None),
                            ("null in (select m from u where m > 0)", None), ("null in (select n from empty)", False),
                            ("1 in (select n from empty)", False), ("null in (select m from u where false)", False),
                            ("1 in (select null)", None), ("1 in (select 2 union select 1)", True),
                            ("false in (select b from t)", True), ("'z' in (select w from t)", None),
                            ("'x' in (select w from t)", True)):
            self.alike(self.value(text), value)
            self.alike(self.value(text.replace(" in ", " not in ")), None if value is None else not value)

    def test_exists(self):
        for text, value in (("exists (select 1)", True), ("exists (select null)", True),
                            ("exists (select 1 where false)", False), ("exists (select * from empty)", False),
                            ("exists (select count(*) from empty)", True), ("not exists (select 1 where null)", True)):
            self.alike(self.value(text), value)

    def test_case(self):
        for text, value in (("case when true then 1 else 2 end", 1), ("case when false then 1 else 2 end", 2),
                            ("case when null then 1 else 2 end", 2), ("case when 1 = 1 then null else 2 end", None)):
            self.alike(self.value(text), value)

    def test_scalar_queries(self):
        for text, value in (("(select count(*) from t)", 4), ("(select max(n) from t) + 1", 3),
                            ("(select sum(n) from empty)", None), ("(select count(*) where false)", 0),
                            ("(select distinct min(w) from t)", "x")):
            self.alike(self.value(text), value)


class Around(Asking):
    """Queries that use columns of the selects around them."""

    def test_they_are_evaluated_for_each_row(self):
        self.alike(self.rows("select id, (select count(*) from u where m = n) from t"),
                   [("a", 2), ("b", 0), ("c", 0), ("d", 2)])
        self.alike(self.rows("select id, exists (select 1 from u where m > n) from t"),
                   [("a", True), ("b", True), ("c", False), ("d", True)])
        self.alike(self.rows("select id, n in (select m from u where m < 3 or b is null) from t"),
                   [("a", True), ("b", False), ("c", None), ("d", True)])

    def test_in_each_place(self):
        self.assertEqual(self.values("select id from t where exists (select 1 from u where m = n)"), ["a", "d"])
        self.assertEqual(self.rows("select t.id, key from t join u on (select count(*) where m = n) = 1"),
                         [("a", "k"), ("a", "l"), ("d", "k"), ("d", "l")])
        text = "select id from t where n = (select min(q.m) from (select m from u where m = n) q)"
        self.assertEqual(self.values(text), ["a", "d"])
        self.assertEqual(self.rows("select w, count(*) from t group by w having exists (select 1 where w = 'x')"),
                         [("x", 2)])
        self.assertEqual(self.rows("select w, (select count(*) from u where key > w) from t group by w"),
                         [("x", 0), ("y", 0), (None, 0)])
        self.assertEqual(self.values("select sum((select count(*) from u where m = n)) from t"), [4])
        self.assertEqual(self.values("select max((select sum(n) from u)) from t"), [8])

    def test_two_selects_around(self):
        text = "select id, (select count(*) from u where exists (select 1 where n = m and b)) from t"
        self.assertEqual(self.rows(text), [("a", 2), ("b", 0), ("c", 0), ("d", 2)])
        inner = "select key from u x where x.m = n and x.key > 'k'"
        text = f"select id from t where exists (select 1 from u where key in ({inner}))"
        self.assertEqual(self.values(text), ["a", "d"])

    def test_the_innermost_scope_decides(self):
        self.assertEqual(self.values("select count(*) from t where n in (select n from empty)"), [0])
        self.assertEqual(self.values("select id from t where exists (select 1 from t where n = 2 and id = 'b')"),
                         list("abcd"))
        self.assertEqual(self.values("select id from t x where exists (select 1 from t where n = 2 and t.n = x.n)"),
                         ["b"])

    def test_a_query_in_from(self):
        self.assertEqual(self.rows("select id, (select max(q.m) from (select m from u where m <= n) q) from t"),
                         [("a", 1), ("b", 1), ("c", None), ("d", 1)])
        self.assertEqual(self.rows("select id, (select count(*) from u join (select n as x) q on m = x) from t"),
                         [("a", 2), ("b", 0), ("c", 0), ("d", 2)])

    def test_set_operators(self):
        self.assertEqual(self.rows("select id, exists (select n except select m from u) from t"),
                         [("a", False), ("b", True), ("c", False), ("d", False)])
        self.assertEqual(self.values("select id from t where 'k' in (select key from u where m = n union select w)"),
                         ["a", "d"])

    def test_values_that_are_equal_in_python(self):
        # What is remembered for 1 is not taken for True.
        more = {"v": (["x"], ["null"], [(1,), (True,), (0,), (False,), (None,), (1,)])}
        self.alike(self.values("select (select max(v.x)) from v", **more),
                   [1, True, 0, False, None, 1])


class Sources(Asking):
    def test_a_table_and_a_query(self):
        self.assertEqual(self.rows("select * from t"), T)
        self.assertEqual(self.rows("select * from (select * from t) q"), T)
        self.assertEqual(self.rows("select w, id from t"), [(row[2], row[0]) for row in T])
        self.assertEqual(self.rows("select * from empty"), [])

    def test_a_join(self):
        self.assertEqual(self.rows("select id, key from t join u on n = m"),
                         [("a", "k"), ("a", "l"), ("d", "k"), ("d", "l")])
        self.assertEqual(self.rows("select id, key from t join u on m = n and key > 'k'"), [("a", "l"), ("d", "l")])
        self.assertEqual(self.rows("select * from u x join u y on x.m < y.m"), [U[0] + U[2], U[1] + U[2]])
        self.assertEqual(len(self.rows("select * from t join u on true")), 16)
        self.assertEqual(self.rows("select * from t join empty on true"), [])
        self.assertEqual(self.rows("select * from empty join t on true"), [])

    def test_the_order_of_a_join(self):
        expected = [row + other for row in T for other in U]
        self.assertEqual(self.rows("select * from t join u on true"), expected)
        self.assertEqual(self.rows("select * from t left join u on 1 = 1"), expected)

    def test_a_left_join(self):
        self.assertEqual(self.rows("select id, key from t left join u on n = m"),
                         [("a", "k"), ("a", "l"), ("b", None), ("c", None), ("d", "k"), ("d", "l")])
        self.assertEqual(self.rows("select * from u left join empty on true"), [row + (None, None) for row in U])
        self.assertEqual(self.rows("select * from empty left join u on true"), [])
        self.assertEqual(self.rows("select id, key from t left join u on n = m where key is null"),
                         [("b", None), ("c", None)])
        self.assertEqual(self.rows("select id, key from t left join u on n = m and n = 2"),
                         [(row[0], None) for row in T])

    def test_conditions_that_are_none(self):
        self.assertEqual(self.rows("select * from t join u on null"), [])
        self.assertEqual(self.rows("select id, key from t left join u on null"), [(row[0], None) for row in T])
        self.assertEqual(self.rows("select id, key from t join u on n = m or null"),
                         self.rows("select id, key from t join u on n = m"))
        self.assertEqual(self.rows("select x.key, y.key from u x join u y on x.m = y.m and x.key = 'n'"), [])

    def test_joins_one_behind_the_other(self):
        text = "select id, u.key, x.key from t join u on n = m left join u x on x.m = n + 2 and u.key = 'l'"
        self.assertEqual(self.rows(text), [("a", "k", None), ("a", "l", "m"), ("d", "k", None), ("d", "l", "m")])
        self.assertEqual(len(self.rows("select 1 from t join u on true join u x on u.m = x.m")), 4 * 5)

    def test_equations_of_many_forms(self):
        plain = self.rows("select id, key from t join u on n = m")
        for text in ("m = n", "n + 0 = m", "m + n = n + n", "n - m = 0", "not n <> m", "n = m and true",
                     "true and (m = n and n = m)", "n = m = true", "n in (m)", "m in (select n)",
                     "(select max(n)) = (select max(m))", "n * 2 = m * 2", "n = m and 1 = 1", "1 = 1 and m = n",
                     "n = m and key <> id", "0 = n - m", "case when n = m then true else null end"):
            self.assertEqual(self.rows(f"select id, key from t join u on {text}"), plain, text)

    def test_equations_with_the_scopes_around(self):
        text = "select x.key, (select count(*) from t join u on n = m and m = x.m) from u x"
        self.assertEqual(self.rows(text), [("k", 4), ("l", 4), ("m", 0), ("n", 0)])
        text = "select x.key, (select count(*) from t join u on n = x.m and m = x.m) from u x"
        self.assertEqual(self.rows(text), [("k", 4), ("l", 4), ("m", 0), ("n", 0)])
        text = "select x.key, (select count(*) from t join u on n + x.m = m + 1) from u x"
        self.assertEqual(self.rows(text), [("k", 4), ("l", 4), ("m", 2), ("n", 0)])

    def test_equations_that_use_both_sides(self):
        plain = self.rows("select id, key from t join u on n = m")
        for text in ("n + n + m = m + m + n", "m + n = n + n", "n + m = n + n", "m + m = n + m", "m + m = m + n",
                     "n - m = m - n"):
            self.assertEqual(self.rows(f"select id, key from t join u on {text}"), plain, text)
        # What is used of the scopes around does not belong to a side, wherever it stands there.
        around = "select (select count(*) from t join u on {}) from t x join u y on x.id = 'a' and y.key = 'm'"
        for text, many in (("m + x.n = n + y.m", 2), ("n + y.m = m + x.n", 2), ("n + x.n = m + y.m", 0),
                           ("m + y.m = n + x.n", 0), ("n * y.m = m * 3", 4), ("x.n = y.m", 0), ("x.n = n", 8),
                           ("m = y.m", 4), ("x.n + 2 = y.m", 16)):
            self.assertEqual(self.values(around.format(text)), [many], text)

    def test_true_does_not_join_1(self):
        more = {"v": (["x"], ["null"], [(1,), (True,), (0,), (False,), (None,)]),
                "z": (["y"], ["null"], [(True,), (0,), (None,)])}
        self.alike(self.rows("select * from v join z on x = y", **more), [(True, True), (0, 0)])

    def test_without_from(self):
        self.assertEqual(self.rows("select 1, 2"), [(1, 2)])
        self.assertEqual(self.rows("select 1 where false"), [])
        self.assertEqual(self.rows("select 1 where null"), [])
        self.assertEqual(self.rows("select count(*)"), [(1,)])
        self.assertEqual(self.rows("select count(*) where false"), [(0,)])


class Where(Asking):
    def test_only_true_holds(self):
        self.assertEqual(self.values("select id from t where b"), ["a", "d"])
        self.assertEqual(self.values("select id from t where not b"), ["b"])
        self.assertEqual(self.values("select id from t where b is null"), ["c"])
        self.assertEqual(self.values("select id from t where n = 1 or w = 'x'"), ["a", "c", "d"])
        self.assertEqual(self.values("select id from t where null"), [])


class Groups(Asking):
    def test_in_the_order_of_their_first_rows(self):
        self.assertEqual(self.rows("select w, count(*) from t group by w"), [("x", 2), ("y", 1), (None, 1)])
        self.assertEqual(self.rows("select n, w, count(*) from t group by w, n"),
                         [(1, "x", 1), (2, "y", 1), (None, "x", 1), (1, None, 1)])
        self.assertEqual(self.values("select count(*) from t group by n"), [2, 1, 1])

    def test_values_that_are_equal_in_python(self):
        more = {"v": (["x"], ["null"],
                      [(False,), (0,), (None,), (True,), (1,), (0,), (False,), (None,), ("",), ("0",)])}
        self.alike(self.rows("select x, count(*) from v group by x", **more),
                   [(False, 2), (0, 2), (None, 2), (True, 1), (1, 1), ("", 1), ("0", 1)])

    def test_no_rows(self):
        self.assertEqual(self.rows("select count(*), count(n), sum(n), min(n), max(id) from empty"),
                         [(0, 0, None, None, None)])
        self.assertEqual(self.rows("select count(*) from t where false"), [(0,)])
        self.assertEqual(self.rows("select count(*) from empty group by n"), [])
        self.assertEqual(self.rows("select 1 from empty having true"), [(1,)])
        self.assertEqual(self.rows("select 1 from empty group by n having true"), [])

    def test_having(self):
        self.assertEqual(self.rows("select w from t group by w having count(*) > 1"), [("x",)])
        self.assertEqual(self.rows("select w from t group by w having w is null"), [(None,)])
        self.assertEqual(self.rows("select 1 from t having count(*) = 4"), [(1,)])
        self.assertEqual(self.rows("select 1 from t having count(*) = 5"), [])
        self.assertEqual(self.rows("select 1 from t having null"), [])
        self.assertEqual(self.rows("select max(n) from t group by w having min(n) = max(n)"), [(1,), (2,), (1,)])

    def test_aggregates(self):
        text = "select count(*), count(n), sum(n), min(n), max(n), min(w), max(w), min(b), max(b) from t"
        self.alike(self.rows(text), [(4, 3, 4, 1, 2, "x", "y", False, True)])
        self.alike(self.rows("select sum(n), count(n), min(n), max(n) from t where n is null"), [(None, 0, None, None)])
        self.alike(self.rows("select sum(null), min(null), count(null), count(1) from t"), [(None, None, 0, 4)])
        self.alike(self.rows("select sum(n * 2) + count(*), - max(n), sum(case when b then 1 else 0 end) from t"),
                   [(12, -2, 2)])
        self.alike(self.rows("select count(*), sum(1) from t join u on true"), [(16, 16)])

    def test_great_sums(self):
        most = GREAT - 1
        for values, total in (((most,), most), ((most, 1), None), ((most, 1, -1), most), ((-most,), -most),
                              ((-most, -1), None), ((GREAT,), None), ((GREAT, -1), most), ((None, most), most)):
            more = {"v": (["x"], ["integer"], [(value,) for value in values])}
            self.alike(self.values("select sum(x) from v", **more), [total])
        more = {"v": (["x"], ["integer"], [(GREAT,), (2 * GREAT,)])}
        self.alike(self.rows("select max(x), min(x), count(x) from v", **more), [(2 * GREAT, GREAT, 2)])

    def test_the_order_of_all_values(self):
        more = {"v": (["x"], ["null"], [(1,), ("a",), (None,), (False,), (True,), (-3,)])}
        self.alike(self.rows("select min(x), max(x), count(x) from v", **more), [(False, "a", 5)])
        more = {"v": (["x"], ["null"], [(True,), (1,), (0,)])}
        self.alike(self.rows("select min(x), max(x) from v", **more), [(True, 1)])

    def test_distinct(self):
        self.assertEqual(self.values("select distinct n from t"), [1, 2, None])
        self.assertEqual(self.rows("select distinct n, b from t"), [(1, True), (2, False), (None, None)])
        self.assertEqual(self.values("select distinct count(*) from t group by w"), [2, 1])
        more = {"v": (["x"], ["null"], [(True,), (1,), (0,), (False,), (None,), (1,), (True,), (None,)])}
        self.alike(self.values("select distinct x from v", **more), [True, 1, 0, False, None])


class Sets(Asking):
    MORE = {"v": (["x"], ["null"], [(1,), (2,), (1,), (None,), (True,)]),
            "z": (["y"], ["null"], [(None,), (1,), (3,), (3,), (1,)])}

    def both(self, word):
        return self.values(f"select * from v {word} select * from z", **self.MORE)

    def test_each(self):
        self.alike(self.both("union all"), [1, 2, 1, None, True, None, 1, 3, 3, 1])
        self.alike(self.both("union"), [1, 2, None, True, 3])
        self.alike(self.both("except"), [2, True])
        self.alike(self.both("intersect"), [1, None])

    def test_one_behind_the_other(self):
        self.assertEqual(self.values("select 1 union all select 1 union select 2"), [1, 2])
        self.assertEqual(self.values("select 1 union select 2 union all select 1"), [1, 2, 1])
        self.assertEqual(self.values("select 1 except select 1 union select 3"), [3])
        self.assertEqual(self.values("select 1 except (select 1 union select 3)"), [])

    def test_several_columns(self):
        self.assertEqual(self.rows("select n, w from t intersect select 1, 'x'"), [(1, "x")])
        self.assertEqual(self.rows("select n, w from t except select 1, null"), [(1, "x"), (2, "y"), (None, "x")])
        self.assertEqual(self.rows("select id, n from empty union all select key, m from u"), U)


class Answers(Asking):
    def test_names_and_rows(self):
        self.assertEqual(self.told("select n as x, w, 1 from t where b"), (["x", "w", ""], [(1, None, 1), (1, "x", 1)]))
        self.assertEqual(self.told("select * from u"), (["key", "m"], U))
        self.assertEqual(self.told("select * from empty"), (["id", "n"], []))

    def test_without_keys_all_columns_sort(self):
        self.alike(self.told("select n, w, b from t")[1],
                   [(None, "x", None), (1, None, True), (1, "x", True), (2, "y", False)])
        more = {"v": (["x"], ["null"], [("a",), (2,), (True,), (None,), (-1,), ("",), (False,), (10,), ("B",)])}
        self.alike(self.told("select x from v", **more)[1],
                   [(value,) for value in (None, False, True, -1, 2, 10, "", "B", "a")])
        self.alike(self.told("select x from v order by x desc", **more)[1],
                   [(value,) for value in ("a", "B", "", 10, 2, -1, True, False, None)])

    def test_keys(self):
        ids = lambda text: "".join([row[0] for row in self.told("select id, n, w from t order by " + text)[1]])
        self.assertEqual(ids("n"), "cadb")
        self.assertEqual(ids("n desc"), "badc")
        self.assertEqual(ids("2 desc, 1 desc"), "bdac")
        self.assertEqual(ids("w, n"), "dcab")
        self.assertEqual(ids("w desc, n"), "bcad")
        self.assertEqual(ids("id desc"), "dcba")
        self.assertEqual(ids("n, n desc"), "cadb")
        self.assertEqual(ids("n desc, n"), "badc")

    def test_ties_are_sorted_by_all_columns_ascending(self):
        more = {"v": (["x", "y", "z"], ["integer"] * 3, [(1, 2, 2), (1, 1, 9), (2, 5, 1), (1, 2, 1), (2, 4, 7)])}
        self.assertEqual(self.told("select * from v order by x desc", **more)[1],
                         [(2, 4, 7), (2, 5, 1), (1, 1, 9), (1, 2, 1), (1, 2, 2)])
        self.assertEqual(self.told("select * from v order by y desc, 1", **more)[1],
                         [(2, 5, 1), (2, 4, 7), (1, 2, 1), (1, 2, 2), (1, 1, 9)])

    def test_the_order_of_the_rows_of_sources_does_not_matter(self):
        chance = random.Random(77)
        for text in ("select * from t", "select w, count(*) from t group by w order by 2",
                     "select id from t order by 1 desc limit 2", "select id, key from t join u on n = m",
                     "select w from t union select key from u"):
            expected = self.told(text)
            for turn in range(10):
                sources = tables(t=(["id", "n", "w", "b"], ["text", "integer", "text", "boolean"], chance.sample(T, 4)),
                                 u=(["key", "m"], ["text", "integer"], chance.sample(U, 4)))
                self.assertEqual(answer(parse(text), sources, []), expected)

    def test_limit(self):
        for limit, many in ((0, 0), (1, 1), (4, 4), (5, 4), (10 ** 29, 4)):
            self.assertEqual(len(self.told(f"select id from t limit {limit}")[1]), many)
        self.assertEqual(self.told("select id, n from t order by n desc limit 2")[1], [("b", 2), ("a", 1)])
        self.assertEqual(self.told("select 1 union all select 1 limit 1")[1], [(1,)])

    def test_equal_rows_stay(self):
        self.assertEqual(self.told("select n from t where n = 1 order by n desc")[1], [(1,), (1,)])

    def test_errors_come_first(self):
        with self.assertRaises(KindMismatch):
            self.told("select 1 from empty where 1")


class Given(Asking):
    def test_nothing_is_changed(self):
        tree = parse("select t.id, count(*) from t left join u on n = m and key <> $1 where n in (select m from u) "
                     "group by t.id")
        sources, parameters = tables(), ["z", None]
        before = (repr(tree), {name: repr(vars(sources[name])) for name in sources})
        answer(tree, sources, parameters)
        query_rows(tree[1], sources, parameters)
        self.assertEqual((repr(tree), {name: repr(vars(sources[name])) for name in sources}), before)
        self.assertEqual((parameters, list(sources)), (["z", None], ["t", "u", "empty"]))

    def test_what_is_returned_is_not_shared(self):
        for text in ("select * from t", "select * from (select * from t) q",
                     "select * from t union all select * from t", "select id from t limit 3", "select 1"):
            tree, sources = parse(text), tables()
            before = answer(tree, sources, [])
            names, rows = answer(tree, sources, [])
            names.clear()
            rows.clear()
            query_rows(tree[1], sources, []).clear()
            self.assertEqual(answer(tree, sources, []), before)
            self.assertEqual(sources["t"].rows, T)

    def test_later_changes_of_what_was_passed(self):
        tree, sources, parameters = parse("select id from t where n = $1"), tables(), [1]
        names, rows = answer(tree, sources, parameters)
        sources["t"].rows.clear()
        parameters.clear()
        self.assertEqual(rows, [("a",), ("d",)])
        self.assertEqual(answer(tree, tables(), [2])[1], [("b",)])


class Random(unittest.TestCase):
    def test_random_questions(self):
        chance = random.Random(74)
        parameters = [3, "x", True, None]
        answered = 0
        for turn in range(2500):
            sources = some_sources(chance)
            tree = Maker(chance, sources, parameters).question()
            try:
                check(tree, sources, parameters)
            except QuestionError:
                continue
            oracle = Oracle(sources, parameters)
            self.assertEqual(repr(query_rows(tree[1], sources, parameters)), repr(oracle.rows(tree[1], [])), tree)
            self.assertEqual(repr(answer(tree, sources, parameters)), repr(oracle.answer(tree)), tree)
            answered += 1
        self.assertGreater(answered, 1500)


class Time(unittest.TestCase):
    def setUp(self):
        self.sources = {
            "t": Source("t", ["id", "n", "w"], ["text", "integer", "text"],
                        [(f"0.1.{k}", k % 500, f"w{k}") for k in range(2000)]),
            "u": Source("u", ["id", "t", "m"], ["text", "text", "integer"],
                        [(f"0.2.{k}", f"0.1.{k * 7 % 2000}", k) for k in range(2000)])}

    def many(self, text, seconds=1):
        started = time.process_time()
        names, rows = answer(parse(text), self.sources, [])
        self.assertLess(time.process_time() - started, seconds, text)
        return len(rows)

    def test_joins_of_2000_rows(self):
        self.assertEqual(self.many("select * from t join u on u.t = t.id"), 2000)
        self.assertEqual(self.many("select * from t left join u on t.id = u.t and m >= 500"), 2000)
        self.assertEqual(self.many("select n, count(*), sum(m) from t join u on u.t = t.id group by n"), 500)
        text = "select t.id from t join u on u.t = t.id join t x on x.id = u.t join u y on y.id = u.id"
        self.assertEqual(self.many(text), 2000)
        self.assertEqual(self.many("select t.id from t join u on n + m < 30", 60), 4 * 465)

    def test_what_compares_2000_rows_with_each_other(self):
        self.assertEqual(self.many("select distinct id, n from t"), 2000)
        self.assertEqual(self.many("select id from t union select t from u"), 2000)
        self.assertEqual(self.many("select id from t except select t from u where m > 9"), 10)
        self.assertEqual(self.many("select id from t intersect select t from u"), 2000)
        self.assertEqual(self.many("select id, count(*) from t group by id order by 2, 1 desc"), 2000)
        self.assertEqual(self.many("select id from t where id in (select t from u)"), 2000)
        self.assertEqual(self.many("select id from t where id not in (select t from u where m > 9)"), 10)
        self.assertEqual(self.many("select id from t where n < (select max(m) from u)"), 2000)
        self.assertEqual(self.many("select id, (select count(*) from (select distinct w from t) q) from t"), 2000)
        self.assertEqual(self.many("select id from t where exists (select 1 from t x join u on u.t = x.id)"), 2000)

    def test_a_query_for_each_row(self):
        self.assertEqual(self.many("select id from t where exists (select 1 from u where u.t = t.id)", 60), 2000)


class Deep(unittest.TestCase):
    ONE, TRUE, TABLE = ("literal", 1), ("literal", True), ("table", "t", None)
    SOURCES = {"t": Source("t", ["id", "n", "b"], ["text", "integer", "boolean"],
                           [("a", 1, True), ("b", 2, False), ("c", 3, None)])}

    def select(self, item, sources=TABLE, where=None, group=None, having=None):
        return ("select", False, ((item, "c"),), sources, where, group, having)

    def rows(self, query):
        started = time.process_time()
        tree = ("question", query, ((1, False),), None)
        names, rows = answer(tree, self.SOURCES, [])
        self.assertLess(time.process_time() - started, 10)
        return rows

    def grown(self, tree, form):
        for depth in range(100):
            tree = form(tree)
        return tree

    def test_expressions(self):
        one, true = self.ONE, self.TRUE
        for start, form, value in (
                (one, lambda part: ("negate", part), 1), (one, lambda part: ("binary", "+", part, one), 101),
                (one, lambda part: ("binary", "+", one, part), 101), (true, lambda part: ("not", part), True),
                (one, lambda part: ("case", true, part, one), 1), (true, lambda part: ("case", part, true, true), True),
                (true, lambda part: ("binary", "and", part, true), True),
                (true, lambda part: ("binary", "or", ("literal", None), part), True),
                (true, lambda part: ("is_null", part, True), True),
                (true, lambda part: ("in_list", part, (true, true), False), True),
                (one, lambda part: ("binary", "-", part, one), -99)):
            self.assertEqual(repr(self.rows(self.select(self.grown(start, form), None))), repr([(value,)]))

    def test_queries_in_queries(self):
        select, table = self.select, self.TABLE
        column = lambda name: ("column", None, name)
        outer = ("column", "t", "n")
        for start, form, many in (
                (self.TRUE, lambda part: ("exists", select(self.ONE, where=part)), 3),
                (self.TRUE, lambda part: ("exists", select(self.ONE, having=part)), 3),
                (self.TRUE, lambda part: ("in_query", column("n"), select(column("n"), where=part), False), 3),
                (self.TRUE, lambda part: ("in_query", self.TRUE, select(part), False), 3),
                # Each of these uses a column of the select around.
                (column("b"), lambda part: ("exists", select(self.ONE, where=("binary", "or", column("b"), part))), 3),
                (self.TRUE,
                 lambda part: ("exists",
                               select(self.ONE, ("table", "t", "x"),
                                      ("binary", "and", ("binary", "<=", ("column", "x", "n"), outer), part))), 3),
                (self.TRUE,
                 lambda part: ("exists", select(self.ONE, ("join", table, ("table", "t", "x"), part, False))), 3)):
            self.assertEqual(len(self.rows(select(self.ONE, where=self.grown(start, form)))), many)

    def test_queries_in_queries_with_values(self):
        most = lambda part: ("scalar", self.select(("aggregate", "max", part)))
        self.assertEqual(self.rows(self.select(self.grown(self.ONE, most), None)), [(1,)])
        most = lambda part: ("binary", "+", ("column", "t", "n"), ("scalar", self.select(("aggregate", "max", part))))
        self.assertEqual(self.rows(self.select(self.grown(("column", None, "n"), most))), [(301,), (302,), (303,)])
        # In turn, the two tables know each other's columns as those around.
        tree = ("column", "y", "n")
        for depth in range(100):
            own, other = ("x", "y") if depth % 2 == 0 else ("y", "x")
            where = ("binary", "<=", ("column", own, "n"), ("column", other, "n"))
            tree = ("scalar",
                    self.select(("aggregate", "max", ("binary", "+", ("column", own, "n"), tree)), ("table", "t", own),
                                where))
        self.assertEqual(len(self.rows(self.select(tree, ("table", "t", "x")))), 3)

    def test_queries_that_differ_for_each_of_many_rows(self):
        sources = {"t": Source("t", ["n"], ["integer"], [(number,) for number in range(60)])}
        forms = [lambda query, other: ("exists", query),
                 lambda query, other: ("in_query", ("column", other, "n"), query, False)]
        for form in forms:
            tree = self.TRUE
            for depth in range(100):
                own, other = ("x", "y") if depth % 2 == 0 else ("y", "x")
                where = ("binary", "and", tree, ("binary", "<=", ("column", own, "n"), ("column", other, "n")))
                tree = form(self.select(("column", own, "n"), ("table", "t", own), where), other)
            query = self.select(("column", "x", "n"), ("table", "t", "x"), tree)
            started = time.process_time()
            self.assertEqual(len(query_rows(query, sources, [])), 60)
            self.assertLess(time.process_time() - started, 30)

    def test_queries_in_from_and_set_operators(self):
        select, one, table = self.select, self.select(self.ONE), self.TABLE
        in_from = lambda query: select(("column", "q", "c"), ("subquery", query, "q"))
        self.assertEqual(len(self.rows(self.grown(one, in_from))), 3)
        self.assertEqual(len(self.rows(self.grown(one, lambda query: ("set", "union all", query, one)))), 303)
        self.assertEqual(len(self.rows(self.grown(one, lambda query: ("set", "except", one, query)))), 1)
        sources = table
        for depth in range(100):
            condition = ("binary", "=", ("column", "t", "n"), ("column", f"t{depth}", "n"))
            sources = ("join", sources, ("table", "t", f"t{depth}"), condition, depth % 2 == 0)
        self.assertEqual(len(self.rows(select(("column", "t", "n"), sources))), 3)


if __name__ == "__main__":
    unittest.main()
