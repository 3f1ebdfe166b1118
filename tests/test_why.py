"""Points 82 to 85: why a row stands in an answer."""

import random
import unittest

from kithbase.errors import AmbiguousColumn, KindMismatch, NoReason, QuestionError, UnknownColumn, UnknownPosition
from kithbase.errors import UnknownParameter, UnknownTable
from kithbase.kinds import check
from kithbase.meaning import answer, query_rows
from kithbase.parser import parse
from kithbase.sources import Source
from kithbase.why import entries, ways
from oracle import Maker, Oracle, same_rows, some_sources

T1, T2, T3 = ("s0_t", "0.1.1"), ("s0_t", "0.1.2"), ("s0_t", "0.1.3")
U1, U2 = ("s0_u", "0.2.1"), ("s0_u", "0.2.2")


def tables():
    t = [("0.1.1", 1, "a"), ("0.1.2", 2, "b"), ("0.1.3", None, "a")]
    u = [("0.2.1", 1, True), ("0.2.2", 2, None)]
    return {"s0_t": Source("s0_t", ["id", "n", "w"], ["text", "integer", "text"], t),
            "s0_u": Source("s0_u", ["id", "n", "b"], ["text", "integer", "boolean"], u)}


def told(text, parameters=()):
    """Returns the entries of a question that passes the check."""
    tree = parse(text)
    check(tree, tables(), list(parameters))
    return entries(tree[1], tables(), list(parameters))


def why(text, row, parameters=()):
    return ways(parse(text), tables(), list(parameters), row)


class Entries(unittest.TestCase):
    def test_a_table(self):
        self.assertEqual(told("select n from s0_t"), [((1,), (T1,)), ((2,), (T2,)), ((None,), (T3,))])

    def test_the_list_makes_the_row(self):
        self.assertEqual(told("select n + 1 as m, 7, 'x' from s0_t where n = 2"), [((3, 7, "x"), (T2,))])

    def test_all_columns(self):
        self.assertEqual(told("select * from s0_u"), [(("0.2.1", 1, True), (U1,)), (("0.2.2", 2, None), (U2,))])
        self.assertEqual(told("select * from s0_u a join s0_u b on a.n < b.n"),
                         [(("0.2.1", 1, True, "0.2.2", 2, None), (U1, U2))])

    def test_without_from(self):
        self.assertEqual(told("select 1"), [((1,), ())])
        self.assertEqual(told("select 1, $1, null", [True]), [((1, True, None), ())])
        self.assertEqual(told("select 1 where false"), [])
        self.assertEqual(told("select 1 where null"), [])

    def test_where(self):
        self.assertEqual(told("select w from s0_t where n > 1"), [(("b",), (T2,))])
        # For the third row the condition is None, and that does not hold.
        self.assertEqual(told("select w from s0_t where not n > 1"), [(("a",), (T1,))])
        self.assertEqual(told("select w from s0_t where n > 1 or true"),
                         [(("a",), (T1,)), (("b",), (T2,)), (("a",), (T3,))])

    def test_a_join(self):
        self.assertEqual(told("select w, b from s0_t join s0_u on s0_t.n = s0_u.n"),
                         [(("a", True), (T1, U1)), (("b", None), (T2, U2))])
        self.assertEqual(told("select w, b from s0_u join s0_t on s0_t.n = s0_u.n"),
                         [(("a", True), (U1, T1)), (("b", None), (U2, T2))])

    def test_a_condition_that_is_none_for_some(self):
        self.assertEqual(told("select s0_t.n from s0_t join s0_u on b"),
                         [((1,), (T1, U1)), ((2,), (T2, U1)), ((None,), (T3, U1))])
        self.assertEqual(told("select s0_t.n from s0_t join s0_u on not b"), [])
        self.assertEqual(told("select s0_t.n from s0_t join s0_u on null"), [])
        self.assertEqual(told("select s0_t.n from s0_t join s0_u on s0_t.n = s0_u.n and s0_u.n = 2"),
                         [((2,), (T2, U2))])

    def test_the_order_of_a_join(self):
        self.assertEqual([way for row, way in told("select 1 from s0_t a join s0_t b on a.w = b.w")],
                         [(T1, T1), (T1, T3), (T2, T2), (T3, T1), (T3, T3)])

    def test_aliases_are_never_named(self):
        self.assertEqual(told("select x.n from s0_t x where x.n = 1"), [((1,), (T1,))])
        self.assertEqual(told("select q.n from (select n from s0_u y) q where n = 1"), [((1,), (U1,))])

    def test_joins_of_joins(self):
        text = "select c.n from s0_t a join s0_u b on a.n = b.n join s0_t c on c.n = b.n"
        self.assertEqual(told(text), [((1,), (T1, U1, T1)), ((2,), (T2, U2, T2))])
        text = "select 5 from s0_t a join (select x.n from s0_u x join s0_t y on x.n = y.n) b on a.n = b.n"
        self.assertEqual(told(text), [((5,), (T1, U1, T1)), ((5,), (T2, U2, T2))])

    def test_a_join_on_the_right_side(self):
        condition = ("binary", "=", ("column", "a", "n"), ("column", "b", "n"))
        right = ("join", ("table", "s0_u", "b"), ("table", "s0_u", "c"), ("literal", True), False)
        tree = ("select", False, ((("column", "a", "w"), None),), ("join", ("table", "s0_t", "a"), right, condition,
                                                                   False),
                None, None, None)
        self.assertEqual(entries(tree, tables(), []),
                         [(("a",), (T1, U1, U1)), (("a",), (T1, U1, U2)), (("b",), (T2, U2, U1)),
                          (("b",), (T2, U2, U2))])

    def test_a_query_in_from(self):
        self.assertEqual(told("select m from (select n + 1 as m, w from s0_t where n > 0) q where w = 'a'"),
                         [((2,), (T1,))])
        self.assertEqual(told("select * from (select n + 1 as m, 5 from s0_t) q"),
                         [((2, 5), (T1,)), ((3, 5), (T2,)), ((None, 5), (T3,))])
        self.assertEqual(told("select * from (select * from (select 1) a) b"), [((1,), ())])
        self.assertEqual(told("select 1 from (select 1) a join (select 2) b on true"), [((1,), ())])

    def test_distinct_drops_no_entry(self):
        self.assertEqual(told("select distinct w from s0_t"), [(("a",), (T1,)), (("b",), (T2,)), (("a",), (T3,))])
        self.assertEqual(told("select w from (select distinct w from s0_t) q"),
                         [(("a",), (T1,)), (("b",), (T2,)), (("a",), (T3,))])

    def test_union_drops_no_entry(self):
        found = [((1,), (T1,)), ((2,), (T2,)), ((None,), (T3,)), ((1,), (U1,)), ((2,), (U2,))]
        self.assertEqual(told("select n from s0_t union select n from s0_u"), found)
        self.assertEqual(told("select n from s0_t union all select n from s0_u"), found)
        self.assertEqual(told("select n from s0_u union select n from s0_t"), found[3:] + found[:3])
        self.assertEqual(told("select 1 union select 1 union select 1"), [((1,), ())] * 3)
        self.assertEqual(told("select 1 union (select 2 union select 3)"), [((1,), ()), ((2,), ()), ((3,), ())])
        self.assertEqual(told("select p from (select 1 as p union select 1 as q) x"), [((1,), ()), ((1,), ())])

    def test_they_share_nothing_with_the_sources(self):
        sources = tables()
        tree = parse("select * from s0_t")[1]
        found = entries(tree, sources, [])
        before = list(found)
        found.append(7)
        sources["s0_t"].rows.clear()
        self.assertEqual(entries(tree, tables(), []), before)
        self.assertEqual(found[:3], before)

    def test_a_long_join(self):
        rows = [(f"0.1.{place}", place) for place in range(2000)]
        sources = {"s0_t": Source("s0_t", ["id", "n"], ["text", "integer"], rows)}
        tree = parse("select a.n from s0_t a join s0_t b on a.n = b.n join s0_t c on b.n = c.n")[1]
        self.assertEqual(entries(tree, sources, [])[1999], ((1999,), (("s0_t", "0.1.1999"),) * 3))


class NoReasons(unittest.TestCase):
    FORMS = [
        "select n from s0_t group by n", "select 1 from s0_t having true", "select count(*) from s0_t",
        "select 1 + max(n) from s0_t", "select case when true then 1 else sum(n) end from s0_t",
        "select s0_t.n from s0_t left join s0_u on true", "select exists (select 1) from s0_t",
        "select n in (select n from s0_u) from s0_t", "select (select count(*) from s0_u) from s0_t",
        "select n from s0_t where exists (select 1)", "select n from s0_t where n in (select 1)",
        "select n from s0_t where not (n = 1 and 1 in (2, (select max(3) from s0_u)))",
        "select 1 from s0_t join s0_u on exists (select 1)",
        "select 1 from s0_t join s0_u on s0_t.n = s0_u.n and s0_t.n = (select max(n) from s0_t x)",
        "select n from s0_t except select n from s0_u", "select n from s0_t intersect select n from s0_u",
        "select -n not in (select 1) as x from s0_t", "select n is null from s0_t where n in (1, (select max(1)))",
        "select w || (select max(w) from s0_t) from s0_t",
    ]

    def test_forms_without_reasons(self):
        for text in self.FORMS:
            with self.assertRaises(NoReason, msg=text):
                told(text)
            with self.assertRaises(NoReason, msg=text):
                why(text, (1,))

    def test_deep_inside(self):
        for text in self.FORMS:
            for around in ["select 1 from ({}) q", "select 1 from s0_t join ({}) q on true",
                           "select 1 from ({}) q join s0_t on true", "select 1 from (select 1 from ({}) q) r",
                           "select 1 union select 1 from ({}) q", "select 1 from ({}) q union all select 1",
                           "select 1 from (select 1 union select 1 from ({}) q) r",
                           "select 1 from s0_t a join s0_t b on true join ({}) q on true"]:
                with self.assertRaises(NoReason, msg=around.format(text)):
                    told(around.format(text))

    def test_sides_of_a_set_operator(self):
        for text in ["select count(*) from s0_t union select 1", "select 1 union select count(*) from s0_t",
                     "select 1 union all (select 1 except select 1)", "(select 1 intersect select 1) union select 1",
                     "select 1 union select 1 except select 1"]:
            with self.assertRaises(NoReason, msg=text):
                told(text)

    def test_on_the_sides_of_a_join_in_a_tree(self):
        table, yes = ("table", "s0_t", "a"), ("literal", True)
        for outer in [("join", table, ("join", ("table", "s0_t", "b"), ("table", "s0_t", "c"), yes, True), yes, False),
                      ("join", ("join", ("table", "s0_t", "b"), ("table", "s0_t", "c"), yes, True), table, yes, False)]:
            with self.assertRaises(NoReason):
                entries(("select", False, ((yes, None),), outer, None, None, None), tables(), [])

    def test_a_reason_without_rows(self):
        self.assertEqual(told("select 1 from s0_t where false"), [])
        with self.assertRaises(NoReason):
            told("select count(*) from s0_t where false")

    def test_what_is_no_form_without_reasons(self):
        for text in ["select case when n = 1 then 2 else 3 end from s0_t", "select n in (1, 2), n is null from s0_t",
                     "select distinct n from s0_t where not n = 1 order by n desc limit 1"]:
            self.assertTrue(told(text))

    def test_it_is_an_error_of_questions(self):
        self.assertTrue(issubclass(NoReason, QuestionError))

    def test_the_check_comes_first(self):
        for text, error in [
                ("select x, count(*) from s0_t", UnknownColumn), ("select 1 from s0_x group by n", UnknownTable),
                ("select n from s0_t except select w from s0_t", KindMismatch),
                ("select n from s0_t left join s0_u on true", AmbiguousColumn),
                ("select count(*) from s0_t order by 2", UnknownPosition),
                ("select count(*) from s0_t order by x", UnknownColumn),
                ("select $2 from s0_t having true", UnknownParameter)]:
            with self.assertRaises(error, msg=text):
                why(text, (1,), [1])

    def test_the_check_of_what_has_reasons(self):
        with self.assertRaises(UnknownColumn):
            why("select x from s0_t", (1,))
        with self.assertRaises(UnknownPosition):
            why("select n from s0_t order by 0", (1,))


class Ways(unittest.TestCase):
    def test_the_ways_of_a_row(self):
        self.assertEqual(why("select w from s0_t", ("a",)), [(T1,), (T3,)])
        self.assertEqual(why("select distinct w from s0_t", ("b",)), [(T2,)])
        self.assertEqual(why("select n from s0_t union select n from s0_u", (2,)), [(T2,), (U2,)])

    def test_rows_that_are_the_same_several_times(self):
        self.assertEqual(why("select 1 union all select 1", (1,)), [(), ()])
        self.assertEqual(why("select n from s0_t union all select n from s0_t", (1,)), [(T1,), (T1,)])

    def test_a_row_that_the_query_does_not_make(self):
        for row in [("c",), (None,), (), ("a", "a"), (1,), ("",)]:
            self.assertEqual(why("select w from s0_t", row), [])
        self.assertEqual(why("select n, w from s0_t", (1, "a")), [(T1,)])
        self.assertEqual(why("select n, w from s0_t", (1, "b")), [])

    def test_none(self):
        self.assertEqual(why("select n from s0_t", (None,)), [(T3,)])

    def test_true_is_not_one(self):
        self.assertEqual(why("select n from s0_t", (True,)), [])
        self.assertEqual(why("select b from s0_u", (1,)), [])
        self.assertEqual(why("select b from s0_u", (True,)), [(U1,)])
        self.assertEqual(why("select n, b from s0_u", (True, 1)), [])
        self.assertEqual(why("select false", (0,)), [])
        self.assertEqual(why("select 0", (False,)), [])

    def test_order_and_limit_are_ignored(self):
        for tail in ["", " order by 1", " order by w desc", " limit 0", " limit 1", " order by 1 desc limit 1"]:
            self.assertEqual(why("select w from s0_t" + tail, ("a",)), [(T1,), (T3,)])

    def test_parameters(self):
        self.assertEqual(why("select n from s0_t where w = $1", (1,), ["a"]), [(T1,)])
        self.assertEqual(why("select $1 from s0_t where n = 2", ("x",), ["x"]), [(T2,)])

    def test_nothing_that_is_passed_changes(self):
        sources, tree, parameters = tables(), parse("select w from s0_t where w = $1"), ["a"]
        ways(tree, sources, parameters, ("a",)).clear()
        self.assertEqual(ways(tree, sources, parameters, ("a",)), [(T1,), (T3,)])
        self.assertEqual((parameters, sources["s0_t"].rows), (["a"], tables()["s0_t"].rows))
        self.assertEqual(tree, parse("select w from s0_t where w = $1"))


def only(sources, pairs):
    """Returns the sources with only the rows of the pairs."""
    return {name: Source(name, source.columns, source.kinds, [row for row in source.rows if (name, row[0]) in pairs])
            for name, source in sources.items()}


class Random(unittest.TestCase):
    PARAMETERS = [None, 2, "x", True]

    def questions(self, seed, many, plain):
        chance = random.Random(seed)
        for turn in range(many):
            sources = some_sources(chance)
            tree = Maker(chance, sources, self.PARAMETERS, plain).question()
            try:
                check(tree, sources, self.PARAMETERS)
            except QuestionError:
                continue
            if all(len(query_rows(part, sources, self.PARAMETERS)) <= 200 for part in [tree[1]]):
                yield chance, sources, tree

    def test_entries_of_plain_questions(self):
        many = 0
        for chance, sources, tree in self.questions(83, 400, True):
            oracle = Oracle(sources, self.PARAMETERS)
            self.assertTrue(oracle.has_reasons(tree[1]), tree)
            found = entries(tree[1], sources, self.PARAMETERS)
            self.assertEqual(repr(found), repr(oracle.entries(tree[1])), tree)
            many += len(found)
        self.assertGreater(many, 500)

    def test_which_questions_have_reasons(self):
        without = 0
        for chance, sources, tree in self.questions(82, 300, False):
            if Oracle(sources, self.PARAMETERS).has_reasons(tree[1]):
                entries(tree[1], sources, self.PARAMETERS)
                ways(tree, sources, self.PARAMETERS, (1,))
            else:
                without += 1
                with self.assertRaises(NoReason, msg=tree):
                    entries(tree[1], sources, self.PARAMETERS)
                with self.assertRaises(NoReason, msg=tree):
                    ways(tree, sources, self.PARAMETERS, (1,))
        self.assertGreater(without, 100)

    def test_a_row_is_in_the_result_over_some_rows_if_one_of_its_ways_is(self):
        kept = 0
        for chance, sources, tree in self.questions(85, 200, True):
            pairs = [(name, row[0]) for name in sources for row in sources[name].rows if chance.random() < 0.7]
            fewer = query_rows(tree[1], only(sources, pairs), self.PARAMETERS)
            names, rows = answer(tree[:2] + ((), None), sources, self.PARAMETERS)
            for row in rows:
                found = ways(tree, sources, self.PARAMETERS, row)
                self.assertTrue(found, tree)
                there = any(all(pair in pairs for pair in way) for way in found)
                self.assertEqual(there, any(same_rows(row, other) for other in fewer), tree)
                kept += there
        self.assertGreater(kept, 100)


if __name__ == "__main__":
    unittest.main()
