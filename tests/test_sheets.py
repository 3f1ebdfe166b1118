"""Points 30 to 33 and 39 to 43: tables, columns, rules, rows, and the values of cells."""

import unittest

from builders import NONE, SEAL, WRITE, group, make, own, revoke, say, sheet_of
from kithbase.rights import verdicts
from kithbase.sheets import Sheet
from kithbase.store import Kept, Store

T, U = (0, 2, 0), (0, 2, 1)
NUMBER, WORD, TRUTH, COUNT, LETTERS, TO_T, TO_U = [(0, 2, place) for place in range(2, 9)]
ROW, OTHER, OF_U = (0, 2, 9), (0, 2, 10), (0, 2, 11)
U_NUMBER = (0, 2, 12)
SETUP = [("table", "t"), ("table", "u"), ("column", T, "n", "integer"), ("column", T, "w", "text"),
         ("column", T, "b", "boolean"), ("column", T, "c", "counter"), ("column", T, "l", "letters"),
         ("column", T, "rt", ("refer", T)), ("column", T, "ru", ("refer", U)), ("row", T), ("row", T), ("row", U),
         ("column", U, "n", "integer")]
COLUMNS = [NUMBER, WORD, TRUTH, COUNT, LETTERS, TO_T, TO_U]
START = (2, 0, 0)
MOST = 10 ** 40 - 1


def put(value, column=NUMBER, row=ROW):
    return ("put", row, column, value)


def refer(target, column=TO_T, row=ROW):
    return ("refer", row, column, target)


def add(amount, column=COUNT, row=ROW):
    return ("add", row, column, amount)


def insert(text, behind=None, column=LETTERS, row=ROW):
    return ("insert", row, column, behind, text)


def undo(*name):
    return ("undo", name)


def office(members=3):
    """Returns a store in which the change (0, 2) makes two tables with columns and rows."""
    store = group(members)
    make(store, 0, SETUP)
    return store


def spots(author, number, *places):
    return [(author, number, place) for place in places]


class Tables(unittest.TestCase):
    def test_an_empty_space(self):
        sheet = sheet_of(Store(2))
        self.assertEqual((sheet.acts, sheet.place, sheet.tables), ([], {}, []))
        self.assertEqual((sheet.columns, sheet.rules, sheet.rule_spots, sheet.live), ({}, {}, {}, {}))

    def test_tables_columns_and_rows_in_order(self):
        sheet = sheet_of(office())
        self.assertEqual(sheet.tables, [T, U])
        self.assertEqual(sheet.columns, {T: COLUMNS, U: [U_NUMBER]})
        self.assertEqual(sheet.live, {T: [ROW, OTHER], U: [OF_U]})
        self.assertEqual((sheet.rules, sheet.rule_spots), ({T: [], U: []}, {T: [], U: []}))

    def test_acts_and_places(self):
        store = office()
        say(store, 1, [put(5), undo(2, 9)])
        make(store, 2, [("table", "no")])
        sheet = sheet_of(store)
        expected = [((0, 2, k), act) for k, act in enumerate(SETUP)] + [((1, 1, 0), put(5)), ((1, 1, 1), undo(2, 9))]
        self.assertEqual(sheet.acts, expected)
        self.assertEqual(sheet.place, {spot: k for k, (spot, act) in enumerate(expected)})

    def test_the_order_is_that_of_the_effective_acts(self):
        store = office()
        say(store, 2, [("table", "a"), ("column", T, "x", "text"), ("row", T)], heard=START)
        say(store, 1, [("table", "a"), ("column", T, "x", "text"), ("row", T)], heard=START)
        sheet = sheet_of(store)
        self.assertEqual(sheet.tables, [T, U, (1, 1, 0), (2, 1, 0)])
        self.assertEqual(sheet.columns[T], COLUMNS + [(1, 1, 1), (2, 1, 1)])
        self.assertEqual(sheet.live[T], [ROW, OTHER, (1, 1, 2), (2, 1, 2)])

    def test_equal_names_make_several_tables_and_columns(self):
        store = Store(1)
        make(store, 0, [("table", "t"), ("table", "t"), ("column", (0, 1, 0), "id", "text"),
                        ("column", (0, 1, 0), "id", "integer")])
        sheet = sheet_of(store)
        self.assertEqual(sheet.tables, spots(0, 1, 0, 1))
        self.assertEqual(sheet.columns, {(0, 1, 0): spots(0, 1, 2, 3), (0, 1, 1): []})

    def test_tables_that_are_not_known(self):
        store = office()
        table = (1, 1, 1)
        acts = [("column", table, "x", "text"), ("table", "v"), ("row", table), ("column", table, "y", "text")]
        say(store, 1, acts)
        say(store, 2, [("row", table), ("column", table, "z", "text"), ("unique", table, ((1, 1, 3),))], heard=START)
        sheet = sheet_of(store)
        self.assertEqual((sheet.columns[table], sheet.live[table]), (spots(1, 1, 3), spots(1, 1, 2)))
        self.assertEqual(sheet.rules[table], [])
        self.assertEqual([sheet.table_of(spot) for spot in spots(1, 1, 0, 2, 3)], [None, table, table])
        self.assertEqual([sheet.table_of(spot) for spot in spots(2, 1, 0, 1)], [None, None])

    def test_tables_that_are_undone(self):
        store = office()
        say(store, 1, [("table", "v")])
        say(store, 2, [("column", (1, 1, 0), "x", "text"), ("row", (1, 1, 0))])
        self.assertEqual(sheet_of(store).live[(1, 1, 0)], [(2, 1, 1)])
        make(store, 0, [undo(1, 1)])
        sheet = sheet_of(store)
        self.assertEqual((sheet.tables, sheet.live), ([T, U], {T: [ROW, OTHER], U: [OF_U]}))
        self.assertEqual([sheet.table_of(spot) for spot in spots(2, 1, 0, 1)], [None, None])
        self.assertIsNone(sheet.act_of((1, 1, 0)))
        self.assertEqual(sheet.act_of((2, 1, 1)), ("row", (1, 1, 0)))
        make(store, 0, [undo(0, 3)])
        self.assertEqual(sheet_of(store).columns[(1, 1, 0)], [(2, 1, 0)])

    def test_what_is_no_table(self):
        store = office()
        for spot in [NUMBER, ROW, (0, 1, 0), (0, 2, 99), (7, 1, 0), (0, 9, 0), (0, 2, -1)]:
            other = store.copy()
            say(other, 1, [("column", spot, "x", "text"), ("row", spot), ("unique", spot, (NUMBER,))])
            sheet = sheet_of(other)
            self.assertEqual(sheet.columns, sheet_of(store).columns, spot)
            self.assertEqual(sheet.live, sheet_of(store).live, spot)
            self.assertEqual(sheet.rules, {T: [], U: []})
            self.assertEqual([sheet.table_of(made) for made in spots(1, 1, 0, 1, 2)], [None] * 3)

    def test_spots_of_other_spaces(self):
        store = Store(1)
        make(store, 0, parts=[[("table", "t")], [("row", (0, 1, 0)), ("table", "u")], [("row", (0, 1, 0))], []])
        self.assertEqual([sheet_of(store, space).tables for space in range(4)], [[(0, 1, 0)], [(0, 1, 1)], [], []])
        self.assertEqual([sheet_of(store, space).live for space in range(3)], [{(0, 1, 0): []}, {(0, 1, 1): []}, {}])

    def test_changes_that_do_not_count(self):
        store = Store(2)
        make(store, 0, [("table", "t")], publics=[("grant", 1, (NONE, WRITE, NONE, NONE))])
        make(store, 1, capability=(0, 1, 0), parts=[[("row", (0, 1, 0))], [("table", "u")], [], []])
        self.assertEqual(sheet_of(store).live, {(0, 1, 0): []})
        self.assertEqual(sheet_of(store, 1).tables, [(1, 1, 0)])

    def test_a_column_of_references_need_not_know_the_table(self):
        store = office()
        say(store, 1, [("table", "v"), ("row", (1, 1, 0))])
        say(store, 2, [("column", T, "x", ("refer", (1, 1, 0))), ("column", T, "y", ("refer", (9, 9, 9)))], heard=START)
        sheet = sheet_of(store)
        self.assertEqual(sheet.columns[T], COLUMNS + spots(2, 1, 0, 1))
        self.assertEqual(sheet.holds((2, 1, 0)), ("refer", (1, 1, 0)))
        say(store, 1, [refer((1, 1, 1), (2, 1, 0)), refer(None, (2, 1, 1))])
        sheet = sheet_of(store)
        self.assertEqual(sheet.entry(ROW, (2, 1, 0)), (1, 1, 1))
        self.assertEqual(sheet.writes(ROW, (2, 1, 1)), [(1, 2, 1)])


class Asking(unittest.TestCase):
    def test_act_of(self):
        sheet = sheet_of(office())
        for place, act in enumerate(SETUP):
            self.assertEqual(sheet.act_of((0, 2, place)), act)
        for spot in [(0, 2, 13), (0, 2, -1), (0, 1, 0), (0, 3, 0), (5, 5, 5)]:
            self.assertIsNone(sheet.act_of(spot))

    def test_holds(self):
        sheet = sheet_of(office())
        kinds = ["integer", "text", "boolean", "counter", "letters", ("refer", T), ("refer", U)]
        self.assertEqual([sheet.holds(column) for column in COLUMNS], kinds)
        self.assertEqual(sheet.holds(U_NUMBER), "integer")

    def test_table_of(self):
        store = office()
        say(store, 1, [("drop", ROW), ("unique", T, (NUMBER,))])
        sheet = sheet_of(store)
        self.assertEqual([sheet.table_of(spot) for spot in COLUMNS + [ROW, OTHER]], [T] * 9)
        self.assertEqual([sheet.table_of(spot) for spot in [U_NUMBER, OF_U]], [U, U])
        for spot in [T, U, (1, 1, 0), (1, 1, 1), (0, 2, 13), (0, 1, 0), (9, 9, 9)]:
            self.assertIsNone(sheet.table_of(spot), spot)


class Rules(unittest.TestCase):
    def rules(self, store, *acts, **more):
        say(store, 1, acts, **more)
        sheet = sheet_of(store)
        return sheet.rules[T], sheet.rule_spots[T]

    def test_rules_in_order(self):
        acts = [("unique", T, (NUMBER,)), ("unique", T, (WORD, TRUTH, NUMBER)), ("unique", T, (TO_T, TO_U))]
        rules, made = self.rules(office(), *acts)
        self.assertEqual(rules, [(NUMBER,), (WORD, TRUTH, NUMBER), (TO_T, TO_U)])
        self.assertEqual(made, spots(1, 1, 0, 1, 2))

    def test_rules_of_several_tables(self):
        store = office()
        say(store, 1, [("unique", U, (U_NUMBER,)), ("unique", T, (NUMBER,)), ("unique", U, (U_NUMBER, U_NUMBER))])
        sheet = sheet_of(store)
        self.assertEqual(sheet.rules, {T: [(NUMBER,)], U: [(U_NUMBER,), (U_NUMBER, U_NUMBER)]})
        self.assertEqual(sheet.rule_spots, {T: spots(1, 1, 1), U: spots(1, 1, 0, 2)})

    def test_rules_that_are_none(self):
        for columns in [(), (COUNT,), (LETTERS,), (NUMBER, COUNT), (LETTERS, NUMBER), (U_NUMBER,), (NUMBER, U_NUMBER),
                        (U_NUMBER, NUMBER), (ROW,), (T,), ((0, 2, 99),), (NUMBER, (8, 1, 0))]:
            self.assertEqual(self.rules(office(), ("unique", T, columns)), ([], []), columns)

    def test_columns_that_are_not_known(self):
        store = office()
        make(store, 0, [("column", T, "x", "text")])
        acts = [("unique", T, ((0, 3, 0),)), ("unique", T, (NUMBER, (0, 3, 0)))]
        self.assertEqual(self.rules(store.copy(), *acts, heard=START), ([], []))
        self.assertEqual(self.rules(store.copy(), *acts)[1], spots(1, 1, 0, 1))

    def test_columns_of_the_same_change(self):
        acts = [("unique", T, ((1, 1, 1),)), ("column", T, "x", "text"), ("unique", T, ((1, 1, 1),))]
        self.assertEqual(self.rules(office(), *acts), ([((1, 1, 1),)], spots(1, 1, 2)))

    def test_columns_that_are_undone(self):
        store = office()
        say(store, 2, [("column", T, "x", "text")])
        self.assertEqual(self.rules(store, ("unique", T, (NUMBER, (2, 1, 0))))[1], spots(1, 1, 0))
        make(store, 0, [undo(2, 1)])
        self.assertEqual(sheet_of(store).rules[T], [])


class Rows(unittest.TestCase):
    def test_dropped_rows(self):
        store = office()
        say(store, 1, [("drop", ROW), ("drop", ROW), ("drop", T), ("drop", NUMBER), ("drop", (9, 9, 9))])
        sheet = sheet_of(store)
        self.assertEqual(sheet.live, {T: [OTHER], U: [OF_U]})
        self.assertEqual(sheet.table_of(ROW), T)

    def test_drops_that_do_not_know_the_row(self):
        store = office()
        say(store, 1, [("drop", (1, 1, 1)), ("row", T), ("row", T), ("drop", (1, 1, 2))])
        self.assertEqual(sheet_of(store).live[T], [ROW, OTHER, (1, 1, 1)])
        say(store, 2, [("drop", (1, 1, 1))], heard=START)
        self.assertEqual(sheet_of(store).live[T], [ROW, OTHER, (1, 1, 1)])
        say(store, 2, [("drop", (1, 1, 1))])
        self.assertEqual(sheet_of(store).live[T], [ROW, OTHER])

    def test_drops_that_are_undone_or_do_not_count(self):
        store = office()
        say(store, 1, [("drop", ROW)])
        make(store, 1, [("drop", OTHER)], capability=own(2))
        self.assertEqual(sheet_of(store).live[T], [OTHER])
        make(store, 0, [undo(1, 1)])
        self.assertEqual(sheet_of(store).live[T], [ROW, OTHER])

    def test_rows_that_are_undone(self):
        store = office()
        say(store, 1, [("row", T)])
        make(store, 0, [undo(1, 1)])
        self.assertEqual(sheet_of(store).live[T], [ROW, OTHER])


class Writes(unittest.TestCase):
    def test_each_kind_of_column_with_each_kind_of_act(self):
        values = [None, True, False, 0, 1, MOST, -MOST, "", "a"]
        acts = [put(value) for value in values] + [refer(ROW), refer(OF_U), refer(None), add(1), insert("a")]
        integers, truths, texts = [3, 4, 5, 6], [1, 2], [7, 8]
        fitting = {NUMBER: [0] + integers, WORD: [0] + texts, TRUTH: [0] + truths, COUNT: [], LETTERS: [],
                   TO_T: [9, 11], TO_U: [10, 11]}
        for column in COLUMNS:
            for place, act in enumerate(acts):
                store = office()
                say(store, 1, [act[:2] + (column,) + act[3:]])
                sheet = sheet_of(store)
                had_effect = place in fitting[column]
                self.assertEqual(sheet.writes(ROW, column), spots(1, 1, 0) if had_effect else [], (column, act))
                self.assertEqual(sheet.shown(ROW, column), [act[3]] if had_effect else [], (column, act))
                self.assertEqual(sheet.counted(ROW, column), (1, 1, 0) if had_effect else None, (column, act))
                empty = {COUNT: 1 if place == 12 else 0, LETTERS: "a" if place == 13 else ""}.get(column)
                self.assertEqual(sheet.entry(ROW, column), act[3] if had_effect else empty, (column, act))

    def test_truths_are_no_integers(self):
        store = office()
        say(store, 1, [put(1), put(True), put(0, TRUTH), put(False, TRUTH), put(1, TRUTH)])
        sheet = sheet_of(store)
        self.assertEqual((sheet.writes(ROW, NUMBER), sheet.writes(ROW, TRUTH)), (spots(1, 1, 0), spots(1, 1, 3)))
        self.assertIs(sheet.entry(ROW, TRUTH), False)
        self.assertIs(type(sheet.entry(ROW, NUMBER)), int)

    def test_nothing_was_written(self):
        sheet = sheet_of(office())
        self.assertEqual([sheet.entry(ROW, column) for column in COLUMNS], [None, None, None, 0, "", None, None])
        self.assertEqual([sheet.writes(ROW, column) for column in COLUMNS], [[]] * 7)
        self.assertEqual([sheet.shown(ROW, column) for column in COLUMNS], [[]] * 7)
        self.assertEqual([sheet.counted(ROW, column) for column in COLUMNS], [None] * 7)

    def test_the_last_write_counts(self):
        store = office()
        say(store, 1, [put(1), put(2)])
        say(store, 2, [put(3)])
        sheet = sheet_of(store)
        self.assertEqual(sheet.writes(ROW, NUMBER), [(1, 1, 0), (1, 1, 1), (2, 1, 0)])
        self.assertEqual((sheet.shown(ROW, NUMBER), sheet.counted(ROW, NUMBER)), ([3], (2, 1, 0)))
        self.assertEqual((sheet.entry(ROW, NUMBER), sheet.entry(OTHER, NUMBER)), (3, None))

    def test_none_is_written_too(self):
        store = office()
        say(store, 1, [put(1), refer(OTHER)])
        say(store, 2, [put(None), refer(None)])
        sheet = sheet_of(store)
        self.assertEqual((sheet.shown(ROW, NUMBER), sheet.counted(ROW, NUMBER)), ([None], (2, 1, 0)))
        self.assertEqual((sheet.shown(ROW, TO_T), sheet.counted(ROW, TO_T)), ([None], (2, 1, 1)))
        self.assertEqual((sheet.entry(ROW, NUMBER), sheet.entry(ROW, TO_T)), (None, None))

    def test_concurrent_writes(self):
        store = office()
        say(store, 2, [put(3)], heard=START)
        say(store, 1, [put(1), put(2)], heard=START)
        make(store, 0, [put(4)], heard=START)
        sheet = sheet_of(store)
        self.assertEqual((sheet.shown(ROW, NUMBER), sheet.counted(ROW, NUMBER)), ([4, 2, 3], (2, 1, 0)))
        self.assertEqual(sheet.entry(ROW, NUMBER), 3)
        say(store, 1, [put(5)], heard=(3, 1, 0))
        sheet = sheet_of(store)
        self.assertEqual((sheet.shown(ROW, NUMBER), sheet.counted(ROW, NUMBER)), ([3, 5], (1, 2, 0)))

    def test_writes_without_effect_hide_nothing(self):
        store = office()
        say(store, 1, [put(1), put("a"), put(True), add(3, NUMBER), refer(OTHER, NUMBER)])
        make(store, 1, [put(2)], capability=own(2))
        say(store, 2, [put(3)])
        make(store, 0, [undo(2, 1)])
        sheet = sheet_of(store)
        self.assertEqual((sheet.writes(ROW, NUMBER), sheet.entry(ROW, NUMBER)), (spots(1, 1, 0), 1))

    def test_writes_that_do_not_know_the_row_or_the_column(self):
        store = office()
        row, column = (0, 3, 0), (0, 3, 1)
        make(store, 0, [("row", T), ("column", T, "x", "integer"), ("column", T, "y", "counter")])
        for cell in [(row, NUMBER), (ROW, column), (row, column)]:
            other = store.copy()
            say(other, 1, [put(1, cell[1], cell[0])], heard=START)
            self.assertEqual(sheet_of(other).writes(*cell), [], cell)
            say(other, 1, [put(2, cell[1], cell[0])])
            self.assertEqual(sheet_of(other).writes(*cell), spots(1, 2, 0), cell)
        for cell in [(row, COUNT), (ROW, (0, 3, 2)), (row, (0, 3, 2))]:
            other = store.copy()
            say(other, 1, [add(1, cell[1], cell[0])], heard=START)
            self.assertEqual(sheet_of(other).entry(*cell), 0, cell)
            say(other, 1, [add(2, cell[1], cell[0])])
            self.assertEqual(sheet_of(other).entry(*cell), 2, cell)

    def test_writes_before_the_row_or_the_column_in_one_change(self):
        store = office()
        row, column = (1, 1, 2), (1, 1, 3)
        acts = [put(1, NUMBER, row), put(1, column, ROW), ("row", T), ("column", T, "x", "integer"),
                put(2, NUMBER, row),
                put(2, column, ROW), put(2, column, row)]
        say(store, 1, acts)
        sheet = sheet_of(store)
        found = [sheet.writes(*cell) for cell in [(row, NUMBER), (ROW, column), (row, column)]]
        self.assertEqual(found, [spots(1, 1, 4), spots(1, 1, 5), spots(1, 1, 6)])

    def test_rows_and_columns_of_different_tables(self):
        store = office()
        acts = [put(1, U_NUMBER, ROW), put(1, NUMBER, OF_U), refer(ROW, TO_T, OF_U), add(1, COUNT, OF_U),
                insert("a", None, LETTERS, OF_U), put(1, NUMBER, T), put(1, ROW, ROW), put(1, NUMBER, NUMBER)]
        say(store, 1, acts)
        sheet = sheet_of(store)
        for row, column in [(ROW, U_NUMBER), (OF_U, NUMBER), (OF_U, TO_T), (T, NUMBER), (ROW, ROW), (NUMBER, NUMBER)]:
            self.assertEqual(sheet.writes(row, column), [])
            self.assertEqual(sheet.shown(row, column), [])
            self.assertIsNone(sheet.counted(row, column))
            self.assertIsNone(sheet.entry(row, column))
        self.assertEqual((sheet.entry(OF_U, COUNT), sheet.entry(OF_U, LETTERS)), (0, ""))

    def test_rows_and_columns_that_are_undone(self):
        store = office()
        say(store, 1, [("row", T), ("column", T, "x", "integer")])
        row, column = (1, 1, 0), (1, 1, 1)
        say(store, 2, [put(1, NUMBER, row), put(2, column, ROW), put(3)])
        make(store, 0, [undo(1, 1)])
        sheet = sheet_of(store)
        self.assertEqual([sheet.writes(row, NUMBER), sheet.writes(ROW, column)], [[], []])
        self.assertEqual(sheet.entry(ROW, NUMBER), 3)

    def test_rows_that_are_dropped_keep_their_cells(self):
        store = office()
        say(store, 1, [put(1), ("drop", ROW), put(2), add(3), insert("a")])
        sheet = sheet_of(store)
        self.assertEqual(sheet.writes(ROW, NUMBER), spots(1, 1, 0, 2))
        self.assertEqual([sheet.entry(ROW, column) for column in [NUMBER, COUNT, LETTERS]], [2, 3, "a"])

    def test_each_space_by_itself(self):
        store = group(2)
        make(store, 0, parts=[SETUP + [put(1)], SETUP + [put(2)], [], []])
        entries = [sheet_of(store, space).entry(ROW, NUMBER) for space in range(3)]
        self.assertEqual(entries, [1, 2, None])


class References(unittest.TestCase):
    def test_rows_of_the_right_table(self):
        store = office()
        say(store, 1, [refer(OTHER), refer(OF_U, TO_U)])
        sheet = sheet_of(store)
        self.assertEqual((sheet.entry(ROW, TO_T), sheet.entry(ROW, TO_U)), (OTHER, OF_U))

    def test_a_row_may_refer_to_itself(self):
        store = office()
        say(store, 1, [refer(ROW)])
        self.assertEqual(sheet_of(store).entry(ROW, TO_T), ROW)

    def test_what_is_no_row_of_the_table(self):
        store = office()
        for target in [OF_U, T, NUMBER, (0, 2, 99), (0, 1, 0), (9, 9, 9), (1, 1, 0), (1, 1, 1)]:
            other = store.copy()
            say(other, 1, [refer(target), ("row", T)])
            self.assertEqual(sheet_of(other).writes(ROW, TO_T), [], target)
        say(store, 1, [refer(ROW, TO_U), refer(OTHER, TO_U)])
        self.assertEqual(sheet_of(store).writes(ROW, TO_U), [])

    def test_rows_that_are_not_known(self):
        store = office()
        make(store, 0, [("row", T)])
        say(store, 1, [refer((0, 3, 0))], heard=START)
        self.assertEqual(sheet_of(store).writes(ROW, TO_T), [])
        say(store, 1, [refer((0, 3, 0))])
        self.assertEqual(sheet_of(store).writes(ROW, TO_T), spots(1, 2, 0))

    def test_rows_of_the_same_change(self):
        store = office()
        say(store, 1, [refer((1, 1, 1)), ("row", T), refer((1, 1, 1))])
        self.assertEqual(sheet_of(store).writes(ROW, TO_T), spots(1, 1, 2))

    def test_rows_that_are_undone(self):
        store = office()
        say(store, 1, [("row", T)])
        say(store, 2, [refer((1, 1, 0))])
        make(store, 0, [undo(1, 1)])
        self.assertEqual(sheet_of(store).writes(ROW, TO_T), [])

    def test_dropped_rows(self):
        store = office()
        say(store, 1, [("drop", OTHER)])
        say(store, 2, [refer(OTHER)])
        self.assertEqual(sheet_of(store).entry(ROW, TO_T), OTHER)
        # Once the drop is closed for it, a reference has no effect.
        make(store, 0, publics=[SEAL])
        say(store, 2, [refer(OTHER, TO_T, OTHER)])
        sheet = sheet_of(store)
        self.assertEqual((sheet.writes(ROW, TO_T), sheet.writes(OTHER, TO_T)), (spots(2, 1, 0), []))

    def test_closed_drops_that_do_nothing(self):
        store = office()
        say(store, 1, [("drop", OTHER)])
        say(store, 2, [("row", T)])
        say(store, 1, [("drop", (2, 1, 0))], heard=(2, 1, 0))
        make(store, 0, [undo(1, 1)])
        make(store, 0, publics=[SEAL])
        say(store, 2, [refer(OTHER), refer((2, 1, 0), TO_T, OTHER)])
        sheet = sheet_of(store)
        self.assertEqual((sheet.entry(ROW, TO_T), sheet.entry(OTHER, TO_T)), (OTHER, (2, 1, 0)))

    def test_none_needs_no_row(self):
        store = office()
        say(store, 1, [refer(None)])
        self.assertEqual(sheet_of(store).writes(ROW, TO_T), spots(1, 1, 0))
        self.assertEqual(sheet_of(store).shown(ROW, TO_T), [None])

    def test_concurrent_references(self):
        store = office()
        say(store, 2, [refer(OTHER)], heard=START)
        say(store, 1, [refer(None)], heard=START)
        sheet = sheet_of(store)
        self.assertEqual((sheet.shown(ROW, TO_T), sheet.entry(ROW, TO_T)), ([None, OTHER], OTHER))


class Counters(unittest.TestCase):
    def test_sums(self):
        store = office()
        say(store, 1, [add(5), add(-7), add(0)], heard=START)
        say(store, 2, [add(10), add(1, COUNT, OTHER)], heard=START)
        sheet = sheet_of(store)
        self.assertEqual((sheet.entry(ROW, COUNT), sheet.entry(OTHER, COUNT)), (8, 1))
        self.assertEqual((sheet.writes(ROW, COUNT), sheet.shown(ROW, COUNT), sheet.counted(ROW, COUNT)), ([], [], None))

    def test_large_amounts(self):
        store = office()
        say(store, 1, [add(MOST), add(MOST)])
        say(store, 2, [add(-MOST, COUNT, OTHER)])
        sheet = sheet_of(store)
        self.assertEqual((sheet.entry(ROW, COUNT), sheet.entry(OTHER, COUNT)), (2 * MOST, -MOST))

    def test_undone_and_uncounted_amounts(self):
        store = office()
        say(store, 1, [add(5)])
        say(store, 1, [add(20)])
        make(store, 1, [add(100)], capability=own(2))
        make(store, 0, [undo(1, 1)])
        self.assertEqual(sheet_of(store).entry(ROW, COUNT), 20)


class Cut(unittest.TestCase):
    def store(self, more=(), sums=(), texts=()):
        """Returns a store in which the tables are kept."""
        store = Store(2)
        store.cut = [4, 3]
        store.capabilities = [((0, 1, 0), None, 1, ((True,) * 3,) * 4)]
        acts = [((0, 2, k), act) for k, act in enumerate(SETUP)]
        store.kept[0] = Kept(acts + list(more), list(sums), list(texts))
        return store

    def test_kept_acts_make_what_they_made(self):
        rule = ((1, 1, 0), ("unique", T, (NUMBER, TO_U)))
        sheet = sheet_of(self.store([rule]))
        self.assertEqual((sheet.tables, sheet.columns), ([T, U], {T: COLUMNS, U: [U_NUMBER]}))
        self.assertEqual(sheet.live, {T: [ROW, OTHER], U: [OF_U]})
        self.assertEqual((sheet.rules[T], sheet.rule_spots[T]), ([(NUMBER, TO_U)], [(1, 1, 0)]))

    def test_kept_writes(self):
        writes = [((0, 3, 0), put(1)), ((1, 3, 0), put(2)), ((1, 2, 5), refer(OTHER))]
        store = self.store(writes)
        sheet = sheet_of(store)
        self.assertEqual((sheet.shown(ROW, NUMBER), sheet.counted(ROW, NUMBER)), ([1, 2], (1, 3, 0)))
        self.assertEqual((sheet.entry(ROW, NUMBER), sheet.entry(ROW, TO_T)), (2, OTHER))
        make(store, 0, [put(3), refer(None)])
        sheet = sheet_of(store)
        self.assertEqual(sheet.writes(ROW, NUMBER), [(0, 3, 0), (1, 3, 0), (0, 5, 0)])
        self.assertEqual((sheet.shown(ROW, NUMBER), sheet.shown(ROW, TO_T)), ([3], [None]))

    def test_kept_references_to_what_is_gone(self):
        gone = (1, 1, 7)
        store = self.store([((1, 2, 0), refer(gone))])
        make(store, 0, [refer(gone, TO_T, OTHER)])
        sheet = sheet_of(store)
        self.assertEqual((sheet.entry(ROW, TO_T), sheet.entry(OTHER, TO_T)), (gone, None))

    def test_kept_sums(self):
        store = self.store([], [((ROW, COUNT), 10 ** 40 + 5), ((OTHER, COUNT), -3)])
        self.assertEqual([sheet_of(store).entry(row, COUNT) for row in [ROW, OTHER]], [10 ** 40 + 5, -3])
        make(store, 0, [add(7), add(7, COUNT, OTHER)])
        self.assertEqual([sheet_of(store).entry(row, COUNT) for row in [ROW, OTHER]], [10 ** 40 + 12, 4])

    def test_kept_letters(self):
        store = self.store([], [], [((ROW, LETTERS), [((1, 1, 0, 0), "a"), ((1, 1, 0, 3), "b")])])
        make(store, 0, [insert("x", (1, 1, 0, 0)), insert("y", None, LETTERS, OTHER)])
        self.assertEqual([sheet_of(store).entry(row, LETTERS) for row in [ROW, OTHER]], ["axb", "y"])

    def test_later_acts_know_what_is_kept(self):
        store = self.store()
        acts = [("row", T), put(1), refer((0, 5, 0)), refer(OTHER, TO_T, OTHER), ("column", U, "x", "text"),
                ("unique", T, (NUMBER,)), ("drop", OF_U)]
        make(store, 0, acts)
        sheet = sheet_of(store)
        self.assertEqual(sheet.live, {T: [ROW, OTHER, (0, 5, 0)], U: []})
        self.assertEqual((sheet.entry(ROW, NUMBER), sheet.entry(ROW, TO_T)), (1, (0, 5, 0)))
        self.assertEqual(sheet.entry(OTHER, TO_T), OTHER)
        self.assertEqual((sheet.columns[U], sheet.rules[T]), ([U_NUMBER, (0, 5, 4)], [(NUMBER,)]))

    def test_rows_that_are_not_kept(self):
        store = self.store()
        make(store, 0, [put(1, NUMBER, (1, 1, 0)), refer((1, 1, 0)), ("drop", (1, 1, 0)), ("row", (1, 1, 1))])
        sheet = sheet_of(store)
        self.assertEqual((sheet.writes((1, 1, 0), NUMBER), sheet.writes(ROW, TO_T)), ([], []))
        self.assertEqual(sheet.live, {T: [ROW, OTHER], U: [OF_U]})

    def test_where_it_is_not_known_what_is_kept(self):
        store = self.store([], [((ROW, COUNT), 5)])
        store.kept[0] = None
        make(store, 0, [("table", "v"), ("row", T), add(1)])
        sheet = sheet_of(store)
        self.assertEqual((sheet.tables, sheet.live), ([(0, 5, 0)], {(0, 5, 0): []}))


class NothingChanges(unittest.TestCase):
    def told(self, sheet):
        """Returns all that the sheet answers."""
        rows = [ROW, OTHER, OF_U, (1, 1, 0)]
        cells = [(row, column) for row in rows for column in COLUMNS + [U_NUMBER]]
        answers = [[sheet.writes(*cell), sheet.shown(*cell), sheet.counted(*cell),
                    sheet.entry(*cell)] for cell in cells]
        named = [[sheet.act_of(spot), sheet.table_of(spot)] for spot in rows + COLUMNS + [T, U, (1, 1, 1)]]
        kinds = [sheet.holds(column) for column in COLUMNS]
        return repr([sheet.acts, sheet.place, sheet.tables, sheet.columns, sheet.rules, sheet.rule_spots, sheet.live,
                     answers, named, kinds])

    def store(self):
        store = office()
        say(store, 1, [("row", T), put(1), refer(OTHER), add(3), insert("ab"), ("unique", T, (NUMBER,))])
        say(store, 2, [put(2), ("drop", OTHER), ("remove", (1, 1, 4, 0))], heard=START)
        return store

    def test_later_changes_to_the_store_and_the_verdicts(self):
        store = self.store()
        allowed = verdicts(store)
        sheet = Sheet(store, allowed, 0)
        before = self.told(sheet)
        for name in list(allowed):
            allowed[name] = False
        allowed.clear()
        store.cut[0] = 9
        store.kept[0].acts.append(((0, 2, 0), ("table", "x")))
        store.kept[0] = None
        store.capabilities.append(((0, 1, 0), None, 1, ((True,) * 3,) * 4))
        store.changes[1][0].parts = ((), (), (), ())
        for changes in store.changes:
            changes.clear()
        self.assertEqual(self.told(sheet), before)

    def test_later_changes_to_what_a_call_returned(self):
        sheet = Sheet(self.store(), verdicts(self.store()), 0)
        before = self.told(sheet)
        for column in COLUMNS:
            sheet.writes(ROW, column).append((9, 9, 9))
            sheet.writes(ROW, column).clear()
            sheet.shown(ROW, column).append(7)
            sheet.shown(ROW, column).clear()
        self.assertEqual(self.told(sheet), before)

    def test_no_call_changes_the_store_or_the_verdicts(self):
        store = self.store()
        make(store, 0, [undo(1, 1)], publics=[SEAL, revoke(own(2))])
        allowed = verdicts(store)
        before = (store.data(), {name: allowed[name] for name in allowed})
        sheet = Sheet(store, allowed, 0)
        self.told(sheet)
        self.assertEqual((store.data(), allowed), before)
        self.assertEqual(self.told(Sheet(store, allowed, 0)), self.told(sheet))

    def test_sheets_share_nothing(self):
        store = self.store()
        store.cut[0] = 0
        allowed = verdicts(store)
        first, second = Sheet(store, allowed, 0), Sheet(store, allowed, 0)
        before = self.told(second)
        first.acts.clear()
        first.place.clear()
        first.tables.clear()
        for table in [T, U]:
            first.columns[table].clear()
            first.live[table].clear()
            first.rules[table].append(())
        self.assertEqual(self.told(second), before)


if __name__ == "__main__":
    unittest.main()
