"""Points 40 and 43 to 48: rows that yield, rows that do not show, and conflicts."""

import itertools
import random
import unittest

from builders import BOTH, NONE, group, make, own, say, sheet_of
from kithbase.store import Kept, Store
from kithbase.yielding import conflicts, reasons, showing

T, U = (0, 1, 0), (0, 1, 1)
NUMBER, WORD, TRUTH, TO_T, TO_U, COUNT, LETTERS, ALSO_TO_T = [(0, 1, place) for place in range(2, 10)]
OF_U = (0, 1, 10)
SETUP = [("table", "t"), ("table", "u"), ("column", T, "n", "integer"), ("column", T, "w", "text"),
         ("column", T, "b", "boolean"), ("column", T, "rt", ("refer", T)), ("column", T, "ru", ("refer", U)),
         ("column", T, "c", "counter"), ("column", T, "l", "letters"), ("column", T, "rt2", ("refer", T)),
         ("column", U, "rt", ("refer", T))]


def columns_of(table):
    if table == U:
        return {"rt": OF_U}
    return {"n": NUMBER, "w": WORD, "b": TRUTH, "rt": TO_T, "ru": TO_U, "rt2": ALSO_TO_T}


class Office:
    """One store of the founder, which makes tables, rules and rows, and writes entries by the names of columns."""

    def __init__(self, rules=()):
        self.store = Store(1)
        make(self.store, 0, SETUP + [("unique", T, columns) for columns in rules])

    def act(self, *acts):
        make(self.store, 0, list(acts))
        return [(0, self.store.count(0), place) for place in range(len(acts))]

    def row(self, table=T, **entries):
        row = self.act(("row", table))[0]
        self.write(row, table, **entries)
        return row

    def write(self, row, table=T, **entries):
        columns = columns_of(table)
        for name, value in entries.items():
            word = "refer" if name.startswith("r") else "put"
            self.act((word, row, columns[name], value))

    def drop(self, row):
        self.act(("drop", row))

    def sheet(self):
        return sheet_of(self.store)

    def reasons(self):
        return reasons(self.sheet())

    def showing(self, table=T):
        return showing(self.sheet(), table)


class Yielding(unittest.TestCase):
    def test_nothing_yields_without_rules(self):
        office = Office()
        rows = [office.row(n=1), office.row(n=1)]
        self.assertEqual((office.reasons(), office.showing()), ({}, rows))
        self.assertEqual(conflicts(office.sheet()), ([], [], []))

    def test_an_empty_space(self):
        sheet = sheet_of(Store(1))
        self.assertEqual((reasons(sheet), conflicts(sheet)), ({}, ([], [], [])))

    def test_one_column(self):
        office = Office([(NUMBER,)])
        first, second, third, other = [office.row(n=value) for value in (1, 1, 1, 2)]
        self.assertEqual(office.reasons(), {second: ("yields", 0, first), third: ("yields", 0, first)})
        self.assertEqual(office.showing(), [first, other])
        self.assertEqual(office.showing(U), [])

    def test_the_value_that_counts_decides(self):
        office = Office([(NUMBER,)])
        first, second = office.row(n=1), office.row(n=1)
        office.write(first, n=2)
        self.assertEqual(office.reasons(), {})
        office.write(second, n=2)
        self.assertEqual(office.reasons(), {second: ("yields", 0, first)})

    def test_two_and_three_columns(self):
        office = Office([(NUMBER, WORD)])
        rows = [office.row(n=n, w=w) for n, w in ((1, "a"), (1, "b"), (2, "a"), (1, "a"))]
        self.assertEqual(office.reasons(), {rows[3]: ("yields", 0, rows[0])})
        office = Office([(NUMBER, WORD, TRUTH)])
        rows = [office.row(n=1, w="a", b=b) for b in (True, False, False, True)]
        self.assertEqual(office.reasons(), {rows[2]: ("yields", 0, rows[1]), rows[3]: ("yields", 0, rows[0])})

    def test_a_column_twice(self):
        office = Office([(NUMBER, NUMBER)])
        rows = [office.row(n=1), office.row(n=1)]
        self.assertEqual(office.reasons(), {rows[1]: ("yields", 0, rows[0])})

    def test_none_is_no_key(self):
        office = Office([(NUMBER, WORD)])
        for entries in ({}, {}, {"n": 1}, {"n": 1}, {"w": "a"}, {"w": "a"}, {"n": None, "w": "a"}):
            office.row(**entries)
        self.assertEqual(office.reasons(), {})

    def test_zero_and_the_empty_text_are_keys(self):
        office = Office([(NUMBER,), (WORD,)])
        first, second, third = office.row(n=0), office.row(n=0, w=""), office.row(w="")
        self.assertEqual(office.reasons(), {second: ("yields", 0, first), third: ("yields", 1, second)})

    def test_a_boolean_is_no_integer(self):
        # Only what is kept can bring an integer and a boolean into one column.
        for values in ((1, True), (True, 1), (0, False), (False, 0)):
            store = Store(1)
            column, rows = (0, 1, 1), [(0, 1, 2), (0, 1, 3)]
            acts = [("table", "t"), ("column", (0, 1, 0), "n", "integer"), ("row", (0, 1, 0)), ("row", (0, 1, 0)),
                    ("unique", (0, 1, 0), (column,))]
            acts.extend([("put", row, column, value) for row, value in zip(rows, values)])
            store.cut = [1]
            store.kept[0] = Kept([((0, 1, place), act) for place, act in enumerate(acts)], [], [])
            self.assertEqual(reasons(sheet_of(store)), {}, values)

    def test_booleans_are_keys(self):
        office = Office([(TRUTH,)])
        rows = [office.row(b=value) for value in (False, True, False, True)]
        self.assertEqual(office.reasons(), {rows[2]: ("yields", 0, rows[0]), rows[3]: ("yields", 0, rows[1])})

    def test_references_are_keys(self):
        office = Office([(TO_T,)])
        target, other = office.row(), office.row()
        rows = [office.row(rt=target), office.row(rt=other), office.row(rt=target), office.row(rt=None)]
        self.assertEqual(office.reasons(), {rows[2]: ("yields", 0, rows[0])})

    def test_the_first_rule_is_the_reason(self):
        office = Office([(WORD,), (NUMBER,)])
        first, second = office.row(n=1), office.row(w="a")
        both = office.row(n=1, w="a")
        only = office.row(n=1, w="b")
        self.assertEqual(office.reasons(), {both: ("yields", 0, second), only: ("yields", 1, first)})

    def test_a_row_that_yields_holds_its_other_keys(self):
        office = Office([(NUMBER,), (WORD,)])
        first = office.row(n=1)
        second = office.row(n=1, w="a")
        third = office.row(n=2, w="a")
        self.assertEqual(office.reasons(), {second: ("yields", 0, first), third: ("yields", 1, second)})
        self.assertEqual(office.showing(), [first])

    def test_a_row_that_does_not_show_holds_its_key(self):
        office = Office([(NUMBER,)])
        gone = office.row()
        first = office.row(n=1, rt=gone)
        second = office.row(n=1)
        office.drop(gone)
        self.assertEqual(office.reasons(), {first: ("refers", TO_T, gone), second: ("yields", 0, first)})
        self.assertEqual(office.showing(), [])

    def test_a_dropped_row_holds_nothing(self):
        office = Office([(NUMBER,)])
        first, second, third = [office.row(n=1) for k in range(3)]
        office.drop(first)
        self.assertEqual(office.reasons(), {third: ("yields", 0, second)})

    def test_yielding_comes_before_references(self):
        office = Office([(NUMBER,)])
        gone, first = office.row(), office.row(n=1)
        second = office.row(n=1, rt=gone)
        office.drop(gone)
        self.assertEqual(office.reasons(), {second: ("yields", 0, first)})

    def test_the_order_is_that_of_the_effective_acts(self):
        store = group(3)
        table, column = (0, 2, 0), (0, 2, 1)
        make(store, 0, [("table", "t"), ("column", table, "n", "integer"), ("unique", table, (column,))])
        heard = store.counts()
        say(store, 2, [("row", table), ("put", (2, 1, 0), column, 1)], heard=heard)
        say(store, 1, [("row", table), ("put", (1, 1, 0), column, 1)], heard=heard)
        self.assertEqual(reasons(sheet_of(store)), {(2, 1, 0): ("yields", 0, (1, 1, 0))})
        self.assertEqual(showing(sheet_of(store), table), [(1, 1, 0)])

    def test_each_table_has_its_own_rules(self):
        office = Office([(TO_T,)])
        make(office.store, 0, [("unique", U, (OF_U,))])
        target = office.row()
        rows = [office.row(U, rt=target), office.row(rt=target), office.row(U, rt=target)]
        self.assertEqual(office.reasons(), {rows[2]: ("yields", 0, rows[0])})


class Referring(unittest.TestCase):
    def test_none_and_rows_that_show(self):
        office = Office()
        first = office.row(rt=None)
        second = office.row(rt=first)
        of_u = office.row(U, rt=second)
        self.assertEqual((office.reasons(), office.showing(U)), ({}, [of_u]))

    def test_a_row_that_is_dropped(self):
        office = Office()
        first = office.row()
        second, third = office.row(rt=first), office.row(rt=None)
        office.drop(first)
        self.assertEqual(office.reasons(), {second: ("refers", TO_T, first)})
        self.assertEqual(office.showing(), [third])
        office.write(second, rt=third)
        self.assertEqual(office.reasons(), {})

    def test_a_row_that_yields(self):
        office = Office([(NUMBER,)])
        first, second = office.row(n=1), office.row(n=1)
        third, of_u = office.row(rt=second), office.row(U, rt=second)
        expected = {second: ("yields", 0, first), third: ("refers", TO_T, second), of_u: ("refers", OF_U, second)}
        self.assertEqual(office.reasons(), expected)
        self.assertEqual((office.showing(), office.showing(U)), ([first], []))

    def test_a_row_whose_own_reference_fails(self):
        office = Office()
        gone = office.row()
        rows = [office.row(rt=gone)]
        for k in range(5):
            rows.append(office.row(rt=rows[-1]))
        office.drop(gone)
        expected = {row: ("refers", TO_T, target) for row, target in zip(rows, [gone] + rows)}
        self.assertEqual(office.reasons(), expected)

    def test_a_row_of_another_table_has_no_effect(self):
        office = Office()
        of_u = office.row(U)
        row = office.row(rt=of_u)
        self.assertEqual((office.reasons(), office.showing()), ({}, [row]))

    def test_kept_references_that_fail(self):
        table, other, column, row, of_other = [(0, 1, place) for place in range(5)]
        acts = [("table", "t"), ("table", "u"), ("column", table, "r", ("refer", table)), ("row", table),
                ("row", other)]
        # A row of another table, a row that is not kept, and spots of a column and of nothing.
        for target in (of_other, (0, 1, 7), column, (0, 9, 9)):
            store = Store(1)
            store.cut = [1]
            kept = acts + [("refer", row, column, target)]
            store.kept[0] = Kept([((0, 1, place), act) for place, act in enumerate(kept)], [], [])
            self.assertEqual(reasons(sheet_of(store)), {row: ("refers", column, target)})
            self.assertEqual(showing(sheet_of(store), table), [])
            self.assertEqual(showing(sheet_of(store), other), [of_other])

    def test_a_circle_shows(self):
        office = Office()
        rows = [office.row() for k in range(3)]
        for row, target in zip(rows, rows[1:] + rows[:1]):
            office.write(row, rt=target)
        itself = office.row()
        office.write(itself, rt=itself)
        self.assertEqual((office.reasons(), office.showing()), ({}, rows + [itself]))

    def test_a_circle_over_two_tables(self):
        office = Office()
        first = office.row()
        second = office.row(U, rt=first)
        office.write(first, ru=second)
        self.assertEqual((office.showing(), office.showing(U)), ([first], [second]))
        office.drop(second)
        self.assertEqual(office.reasons(), {first: ("refers", TO_U, second)})

    def test_a_circle_with_a_row_that_yields(self):
        office = Office([(NUMBER,)])
        holder = office.row(n=1)
        rows = [office.row() for k in range(3)]
        for row, target in zip(rows, rows[1:] + rows[:1]):
            office.write(row, rt=target)
        office.write(rows[1], n=1)
        expected = {rows[0]: ("refers", TO_T, rows[1]), rows[1]: ("yields", 0, holder),
                    rows[2]: ("refers", TO_T, rows[0])}
        self.assertEqual((office.reasons(), office.showing()), (expected, [holder]))

    def test_a_circle_with_a_row_that_is_dropped(self):
        office = Office()
        rows = [office.row() for k in range(3)]
        for row, target in zip(rows, rows[1:] + rows[:1]):
            office.write(row, rt=target)
        office.drop(rows[2])
        self.assertEqual(office.reasons(), {rows[0]: ("refers", TO_T, rows[1]), rows[1]: ("refers", TO_T, rows[2])})

    def test_a_circle_that_refers_to_a_row_that_is_dropped(self):
        office = Office()
        first, second, gone = office.row(), office.row(), office.row()
        office.write(first, rt=second)
        office.write(second, rt=first, rt2=gone)
        office.drop(gone)
        self.assertEqual(office.reasons(), {first: ("refers", TO_T, second), second: ("refers", TO_T, first)})

    def test_the_first_column_that_fails_is_the_reason(self):
        office = Office()
        good, gone, lost = office.row(), office.row(), office.row(U)
        rows = [office.row(rt=good, ru=lost, rt2=gone), office.row(rt2=gone, rt=good), office.row(rt=gone, ru=lost)]
        office.drop(gone)
        office.drop(lost)
        expected = [("refers", TO_U, lost), ("refers", ALSO_TO_T, gone), ("refers", TO_T, gone)]
        self.assertEqual([office.reasons()[row] for row in rows], expected)

    def test_a_long_chain(self):
        store = Store(1)
        table, column = (0, 1, 0), (0, 1, 1)
        acts = [("table", "t"), ("column", table, "r", ("refer", table))] + [("row", table)] * 3000
        rows = [(0, 1, place) for place in range(2, 3002)]
        acts.extend([("refer", row, column, target) for row, target in zip(rows[:-1], rows[1:])])
        make(store, 0, acts)
        self.assertEqual(showing(sheet_of(store), table), rows)
        make(store, 0, [("drop", rows[-1])])
        sheet = sheet_of(store)
        self.assertEqual(reasons(sheet), {row: ("refers", column, target) for row, target in zip(rows[:-1], rows[1:])})
        self.assertEqual(showing(sheet, table), [])


class Conflicts(unittest.TestCase):
    def names(self, store):
        return conflicts(sheet_of(store))[0]

    def test_tables_with_one_name(self):
        store = Store(1)
        make(store, 0, [("table", "a"), ("table", "b"), ("table", "a"), ("table", "a")])
        self.assertEqual(self.names(store), [((0, 1, 2), "a", (0, 1, 0)), ((0, 1, 3), "a", (0, 1, 0))])

    def test_tables_with_one_name_in_concurrent_changes(self):
        store = group(3)
        heard = store.counts()
        say(store, 2, [("table", "a")], heard=heard)
        say(store, 1, [("table", "a")], heard=heard)
        self.assertEqual(self.names(store), [((2, 1, 0), "a", (1, 1, 0))])
        make(store, 0, [("undo", (1, 1))])
        self.assertEqual(self.names(store), [])

    def test_columns_with_one_name(self):
        store = Store(1)
        table, other = (0, 1, 0), (0, 1, 1)
        make(store, 0, [("table", "a"), ("table", "b"), ("column", other, "x", "text"), ("column", table, "x", "text"),
                        ("column", table, "x", "integer"), ("column", other, "x", "counter")])
        expected = [((0, 1, 4), "x", (0, 1, 3)), ((0, 1, 5), "x", (0, 1, 2))]
        self.assertEqual(self.names(store), expected)

    def test_columns_with_one_name_in_concurrent_changes(self):
        store = group(3)
        table = (0, 2, 0)
        make(store, 0, [("table", "a")])
        heard = store.counts()
        say(store, 2, [("column", table, "x", "text")], heard=heard)
        say(store, 1, [("column", table, "x", "text")], heard=heard)
        self.assertEqual(self.names(store), [((2, 1, 0), "x", (1, 1, 0))])

    def test_columns_with_the_name_id(self):
        store = Store(1)
        make(store, 0, [("table", "id"), ("column", (0, 1, 0), "id", "text"), ("column", (0, 1, 0), "id", "integer")])
        self.assertEqual(self.names(store), [((0, 1, 1), "id", None), ((0, 1, 2), "id", None)])

    def test_tables_come_first(self):
        store = Store(1)
        table, other = (0, 1, 0), (0, 1, 3)
        make(store, 0, [("table", "a"), ("column", table, "id", "text"), ("column", table, "x", "text"), ("table", "a"),
                        ("column", other, "x", "text"), ("column", other, "x", "text"), ("column", table, "x", "text")])
        expected = [(other, "a", table), ((0, 1, 1), "id", None), ((0, 1, 6), "x", (0, 1, 2)),
                    ((0, 1, 5), "x", (0, 1, 4))]
        self.assertEqual(self.names(store), expected)

    def test_rows_of_all_tables_together(self):
        office = Office([(WORD,)])
        gone, target = office.row(), office.row(w="a")
        rows = [office.row(U, rt=gone), office.row(rt=gone), office.row(U, rt=target), office.row(w="a"), office.row(U)]
        office.write(rows[4], U, rt=rows[3])
        office.drop(gone)
        expected = [(rows[0], "refers", OF_U, gone), (rows[1], "refers", TO_T, gone), (rows[3], "yields", 0, target),
                    (rows[4], "refers", OF_U, rows[3])]
        self.assertEqual(conflicts(office.sheet()), ([], expected, []))
        self.assertEqual(list(office.reasons()), [row[0] for row in expected])

    def test_the_index_of_a_rule(self):
        office = Office([(NUMBER,), (WORD,)])
        first, second = office.row(w="a"), office.row(w="a")
        self.assertEqual(conflicts(office.sheet())[1], [(second, "yields", 1, first)])


class Cells(unittest.TestCase):
    def setUp(self):
        self.store = group(4)
        self.table = (0, 2, 0)
        holds = ["integer", ("refer", self.table), "counter", "letters", "text"]
        self.columns = [(0, 2, place) for place in range(1, 6)]
        self.rows = [(0, 2, 6), (0, 2, 7)]
        acts = [("table", "t")] + [("column", self.table, "x" + str(k), told) for k, told in enumerate(holds)]
        make(self.store, 0, acts + [("row", self.table)] * 2)
        self.heard = self.store.counts()

    def cells(self):
        return conflicts(sheet_of(self.store))[2]

    def say(self, member, *acts):
        say(self.store, member, acts, heard=self.heard)

    def test_two_and_three_writes(self):
        cell = (self.rows[0], self.columns[0])
        self.say(2, ("put",) + cell + (5,))
        self.assertEqual(self.cells(), [])
        self.say(1, ("put",) + cell + (None,))
        self.assertEqual(self.cells(), [cell + ((None, 5),)])
        self.say(3, ("put",) + cell + (5,))
        self.assertEqual(self.cells(), [cell + ((None, 5, 5),)])
        make(self.store, 0, [("put",) + cell + (6,)])
        self.assertEqual(self.cells(), [])

    def test_references(self):
        cell = (self.rows[1], self.columns[1])
        self.say(1, ("refer",) + cell + (self.rows[0],))
        self.say(2, ("refer",) + cell + (None,))
        self.say(3, ("refer",) + cell + (self.rows[1],))
        self.assertEqual(self.cells(), [cell + ((self.rows[0], None, self.rows[1]),)])

    def test_counters_and_letters_are_never_in_conflict(self):
        for member in (1, 2):
            self.say(member, ("add", self.rows[0], self.columns[2], 1),
                     ("insert", self.rows[0], self.columns[3], None, "a"))
        self.assertEqual(self.cells(), [])

    def test_the_order(self):
        for member in (1, 2):
            self.say(member, ("put", self.rows[1], self.columns[4], "b"), ("put", self.rows[1], self.columns[0], 1),
                     ("put", self.rows[0], self.columns[4], "a"))
        expected = [(self.rows[0], self.columns[4], ("a", "a")), (self.rows[1], self.columns[0], (1, 1)),
                    (self.rows[1], self.columns[4], ("b", "b"))]
        self.assertEqual(self.cells(), expected)

    def test_rows_that_do_not_show_and_rows_that_are_dropped(self):
        make(self.store, 0, [("unique", self.table, (self.columns[4],))] + [
            ("put", row, self.columns[4], "a") for row in self.rows])
        for member in (1, 2):
            self.say(member, ("put", self.rows[1], self.columns[0], member))
        sheet = sheet_of(self.store)
        self.assertEqual(showing(sheet, self.table), self.rows[:1])
        self.assertEqual(self.cells(), [(self.rows[1], self.columns[0], (1, 2))])
        make(self.store, 0, [("drop", self.rows[1])])
        self.assertEqual(self.cells(), [])


class Given(unittest.TestCase):
    def test_what_is_returned_is_not_shared(self):
        office = Office([(NUMBER,)])
        first, second = office.row(n=1), office.row(n=1)
        make(office.store, 0, [("table", "t")])
        sheet = office.sheet()
        before = (reasons(sheet), showing(sheet, T), conflicts(sheet))
        reasons(sheet).clear()
        showing(sheet, T).clear()
        for found in conflicts(sheet):
            found.clear()
        self.assertEqual((reasons(sheet), showing(sheet, T), conflicts(sheet)), before)
        self.assertEqual(before[1], [first])

    def test_the_store_stays_as_it_is(self):
        office = Office([(NUMBER,)])
        office.row(n=1), office.row(n=1)
        before = office.store.data()
        conflicts(office.sheet())
        self.assertEqual(office.store.data(), before)

    def test_a_change_that_does_not_count(self):
        store = group(2, (BOTH, NONE, NONE, NONE))
        make(store, 0, [("table", "t")], parts=[(), [("table", "t")], (), ()])
        make(store, 1, (), capability=own(1), parts=[(), [("table", "t")], (), ()])
        self.assertEqual(conflicts(sheet_of(store, 1)), ([], [], []))


def largest(links, yielding, rows):
    """Returns the largest set of the rows that do not yield and refer only to rows of the set, by trying all."""
    free = [row for row in rows if row not in yielding]
    for size in range(len(free), -1, -1):
        for chosen in itertools.combinations(free, size):
            if all(target in chosen for row in chosen for target in links[row]):
                return list(chosen)
    return []


class Random(unittest.TestCase):
    def test_the_largest_set(self):
        chance = random.Random(45)
        for turn in range(150):
            office = Office([(NUMBER,)])
            rows = [office.row() for k in range(7)]
            links = {row: [] for row in rows}
            for row in rows:
                if chance.random() < 0.4:
                    office.write(row, n=chance.randrange(3))
                for name in ("rt", "rt2"):
                    if chance.random() < 0.4:
                        target = chance.choice(rows)
                        office.write(row, **{name: target})
                        links[row].append(target)
            if chance.random() < 0.5:
                office.drop(rows[chance.randrange(7)])
            sheet = office.sheet()
            told = reasons(sheet)
            yielding = {row for row in told if told[row][0] == "yields"}
            self.assertEqual(showing(sheet, T), largest(links, yielding, sheet.live[T]))


if __name__ == "__main__":
    unittest.main()
