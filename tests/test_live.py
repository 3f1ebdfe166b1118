"""Points 79 to 81: what came and went, live results, and differences of lists and joins."""

import collections
import random
import unittest

from kithbase.errors import KindMismatch, UnknownParameter, UnknownTable
from kithbase.live import Live, came, change_of, join_change, went
from kithbase.meaning import answer
from kithbase.parser import parse
from kithbase.sources import Source

A, B, C = ("a", 1), ("b", 2), ("c", 3)


def table(*rows, kinds=("text", "integer"), columns=("id", "n")):
    return {"t": Source("t", columns, kinds, rows)}


class Coming(unittest.TestCase):
    def both(self, old, new):
        return came(old, new), went(old, new)

    def test_nothing_changes(self):
        for rows in ([], [A], [A, B, A]):
            self.assertEqual(self.both(rows, list(rows)), ([], []))

    def test_all_is_new(self):
        self.assertEqual(self.both([], [B, A, B]), ([B, A, B], []))
        self.assertEqual(self.both([B, A, B], []), ([], [B, A, B]))

    def test_the_orders(self):
        self.assertEqual(self.both([A, B, C], [C, ("y", 0), B, ("x", 0)]), ([("y", 0), ("x", 0)], [A]))
        self.assertEqual(self.both([C, B, A], [("x", 0)]), ([("x", 0)], [C, B, A]))

    def test_only_the_order_changes(self):
        self.assertEqual(self.both([A, B, A, C], [C, A, A, B]), ([], []))

    def test_equal_rows_several_times(self):
        self.assertEqual(self.both([A, A], [A, B, A, A]), ([B, A], []))
        self.assertEqual(self.both([A, B, A, A], [A]), ([], [B, A, A]))
        # The first ones of equal rows are left out, so the last one comes.
        self.assertEqual(self.both([A], [A, B, A]), ([B, A], []))
        self.assertEqual(self.both([A, A, B], [B, B, A]), ([B], [A]))

    def test_no_row_comes_and_goes(self):
        chance = random.Random(79)
        for turn in range(200):
            old, new = [[chance.choice((A, B, C)) for k in range(chance.randrange(6))] for side in range(2)]
            first, second = self.both(old, new)
            self.assertEqual(collections.Counter(first), collections.Counter(new) - collections.Counter(old))
            self.assertEqual(collections.Counter(second), collections.Counter(old) - collections.Counter(new))
            self.assertFalse(set(first) & set(second))

    def test_rows_of_different_lengths(self):
        self.assertEqual(self.both([(), (None,), (1, 2)], [(None, None), (), (1,)]),
                         ([(None, None), (1,)], [(None,), (1, 2)]))
        self.assertEqual(self.both([(None,)], [()]), ([()], [(None,)]))
        self.assertEqual(self.both([("a", "b")], [("a",), ("b",)]), ([("a",), ("b",)], [("a", "b")]))

    def test_a_boolean_is_not_an_integer(self):
        for old, new in (([(True,)], [(1,)]), ([(0,)], [(False,)]), ([("a", 1)], [("a", True)])):
            self.assertEqual(repr(self.both(old, new)), repr((new, old)))
        self.assertEqual(repr(self.both([(1,), (True,)], [(True,), (1,), (True,)])), "([(True,)], [])")
        self.assertEqual(self.both([(None,)], [(0,), (False,), ("",)])[0], [(0,), (False,), ("",)])

    def test_nothing_is_changed(self):
        old, new = [A, B, A], [B, C]
        came(old, new).append(C)
        went(old, new).append(C)
        self.assertEqual((old, new), ([A, B, A], [B, C]))
        rows = [A]
        came([], rows).clear()
        self.assertEqual(rows, [A])


class Living(unittest.TestCase):
    def test_turns(self):
        live = Live(parse("select id, n from t where n > $1"), [1])
        self.assertEqual(live.turn(table(A, B, C)), (["id", "n"], [B, C], []))
        self.assertEqual(live.turn(table(A, B, C)), (["id", "n"], [], []))
        self.assertEqual(live.turn(table(A, C, ("d", 4))), (["id", "n"], [("d", 4)], [B]))
        self.assertEqual(live.turn(table()), (["id", "n"], [], [C, ("d", 4)]))
        self.assertEqual(live.turn(table(B)), (["id", "n"], [B], []))

    def test_the_orders_are_those_of_the_answers(self):
        live = Live(parse("select id, n from t order by n desc"), [])
        self.assertEqual(live.turn(table(B, A, C))[1], [C, B, A])
        self.assertEqual(live.turn(table())[2], [C, B, A])

    def test_equal_rows(self):
        live = Live(parse("select n from t"), [])
        self.assertEqual(live.turn(table(A, ("x", 1)))[1], [(1,), (1,)])
        self.assertEqual(live.turn(table(A))[1:], ([], [(1,)]))
        self.assertEqual(live.turn(table(A, ("x", 1), ("y", 1)))[1:], ([(1,), (1,)], []))

    def test_limits(self):
        live = Live(parse("select id from t limit 2"), [])
        self.assertEqual(live.turn(table(B, C))[1:], ([("b",), ("c",)], []))
        self.assertEqual(live.turn(table(A, B, C))[1:], ([("a",)], [("c",)]))

    def test_columns_that_change(self):
        live = Live(parse("select * from t"), [])
        self.assertEqual(live.turn(table(A)), (["id", "n"], [A], []))
        self.assertEqual(live.turn(table(("a",), kinds=("text",), columns=("id",))), (["id"], [("a",)], [A]))
        told = live.turn(table(("a", True), kinds=("text", "boolean"), columns=("id", "b")))
        self.assertEqual(repr(told), repr((["id", "b"], [("a", True)], [("a",)])))
        told = live.turn(table(("a", 1)))
        self.assertEqual(repr(told), repr((["id", "n"], [("a", 1)], [("a", True)])))

    def test_a_turn_that_raises_an_error(self):
        live = Live(parse("select id from t where n > 1"), [])
        live.turn(table(B, C))
        with self.assertRaises(UnknownTable):
            live.turn({})
        with self.assertRaises(KindMismatch):
            live.turn(table(("a", "x"), kinds=("text", "text")))
        self.assertEqual(live.turn(table(C, ("d", 4)))[1:], ([("d",)], [("b",)]))

    def test_an_error_at_once(self):
        live = Live(parse("select $2 from t"), [1])
        for turn in range(2):
            with self.assertRaises(UnknownParameter):
                live.turn(table(A))

    def test_several_live_results(self):
        tree = parse("select id from t")
        first, second = Live(tree, []), Live(tree, [])
        first.turn(table(A))
        self.assertEqual(second.turn(table(A))[1], [("a",)])

    def test_later_changes_have_no_effect(self):
        parameters, sources = [1], table(A, B)
        live = Live(parse("select id, n from t where n >= $1"), parameters)
        parameters[0] = 2
        names, come, gone = live.turn(sources)
        self.assertEqual(come, [A, B])
        for given in (names, come, gone, sources["t"].rows, parameters):
            given.clear()
        sources["t"].rows.append(B)
        self.assertEqual(live.turn(sources), (["id", "n"], [], [A]))

    def test_the_sources_stay_as_they_are(self):
        sources = table(B, A)
        Live(parse("select * from t"), []).turn(sources)
        self.assertEqual(sources["t"].rows, [B, A])


class Differences(unittest.TestCase):
    def test_lists(self):
        self.assertEqual(change_of([], []), {})
        self.assertEqual(change_of([A], [A]), {})
        self.assertEqual(change_of([], [A, B, A]), {A: 2, B: 1})
        self.assertEqual(change_of([A, B, A], []), {A: -2, B: -1})
        self.assertEqual(change_of([A, B, B, C], [B, A, A, A]), {A: 2, B: -1, C: -1})
        self.assertEqual(change_of([A, B], [B, A]), {})
        self.assertEqual(change_of([()], [(), ()]), {(): 1})

    def test_values(self):
        self.assertEqual(change_of([(None, True), ("x", False)], [("x", False), (None, False)]),
                         {(None, True): -1, (None, False): 1})

    def test_a_join_where_one_side_changes(self):
        equal = lambda row: row[1] == row[2]
        left, right = [("a", 1), ("b", 2)], [(1, "x"), (1, "y"), (2, "z")]
        self.assertEqual(join_change(left, left, right, right, equal), {})
        self.assertEqual(join_change([], left, right, right, equal),
                         {("a", 1, 1, "x"): 1, ("a", 1, 1, "y"): 1, ("b", 2, 2, "z"): 1})
        self.assertEqual(join_change(left, left, right, right[:1], equal), {("a", 1, 1, "y"): -1, ("b", 2, 2, "z"): -1})

    def test_a_join_where_both_sides_change(self):
        always = lambda row: True
        self.assertEqual(join_change([(1,)], [(2,)], [("x",)], [("y",)], always), {(1, "x"): -1, (2, "y"): 1})
        self.assertEqual(join_change([(1,)], [(1,), (1,)], [("x",)], [("x",), ("x",), ("x",)], always), {(1, "x"): 5})
        # What comes on one side goes on the other.
        self.assertEqual(join_change([(1,)], [(1,), (1,)], [("x",), ("x",)], [("x",)], always), {})
        self.assertEqual(join_change([(1,)], [], [("x",)], [], always), {(1, "x"): -1})
        self.assertEqual(join_change([], [(1,)], [], [("x",)], lambda row: False), {})

    def test_random_joins(self):
        chance = random.Random(81)
        conditions = [lambda row: True, lambda row: row[0] == row[1], lambda row: row[0] < row[1], lambda row: False]
        for turn in range(400):
            sides = [[(chance.randrange(4),) for k in range(chance.randrange(7))] for side in range(4)]
            old_left, new_left, old_right, new_right = sides
            condition = chance.choice(conditions)
            before = [row + other for row in old_left for other in old_right if condition(row + other)]
            after = [row + other for row in new_left for other in new_right if condition(row + other)]
            told = join_change(old_left, new_left, old_right, new_right, condition)
            self.assertEqual(told, change_of(before, after))
            self.assertNotIn(0, told.values())

    def test_the_join_of_a_question(self):
        tree = parse("select * from t join u on t.n = u.m")

        def joined(left, right):
            found = {"t": Source("t", ["id", "n"], ["text", "integer"], left),
                     "u": Source("u", ["key", "m"], ["text", "integer"], right)}
            return answer(tree, found, [])[1]

        left, right = [A, B, C], [("k", 1), ("l", 2), ("m", 2)]
        told = join_change(left, left[1:], right, right[:2], lambda row: row[1] == row[3])
        self.assertEqual(told, change_of(joined(left, right), joined(left[1:], right[:2])))

    def test_nothing_is_changed(self):
        sides = [[A, B], [B, B], [C], [A, C]]
        before = [list(side) for side in sides]
        change_of(sides[0], sides[1]).clear()
        join_change(*sides, lambda row: True).clear()
        self.assertEqual(sides, before)


if __name__ == "__main__":
    unittest.main()
