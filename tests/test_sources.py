"""Points 49 to 51: the tables of spaces as questions see them."""

import unittest

from builders import NONE, NOTHING, WRITE, grant, group, make, own, say
from kithbase.changes import Change
from kithbase.rights import verdicts
from kithbase.sources import Source, all_sources, sources
from kithbase.store import Kept, Store

T = (0, 1, 0)
HOLDS = ["integer", "text", "boolean", "counter", "letters", ("refer", T)]
COLUMNS = [(0, 1, place) for place in range(1, 7)]
NUMBER, WORD, TRUTH, COUNT, LETTERS, LINK = COLUMNS
NAMES = ["n", "w", "b", "c", "l", "r"]
SETUP = [("table", "t")] + [("column", T, name, holds) for name, holds in zip(NAMES, HOLDS)]


def told(source):
    return (source.name, source.columns, source.kinds, source.rows)


def told_of(store, space=0):
    return [told(source) for source in sources(store, verdicts(store), space)]


def office(*acts):
    """Returns a store with a table that has a column of each kind, and with more acts in a change each."""
    store = Store(1)
    make(store, 0, SETUP)
    for act in acts:
        make(store, 0, [act])
    return store


class Sources(unittest.TestCase):
    def test_an_empty_store(self):
        self.assertEqual((told_of(Store(3)), all_sources(Store(3))), ([], {}))

    def test_a_table_without_columns_and_rows(self):
        store = Store(1)
        make(store, 0, [("table", "t")])
        self.assertEqual(told_of(store), [("s0_t", ["id"], ["text"], [])])

    def test_a_table_without_columns(self):
        store = Store(1)
        make(store, 0, [("table", "t"), ("row", T), ("row", T)])
        self.assertEqual(told_of(store), [("s0_t", ["id"], ["text"], [("0.1.1",), ("0.1.2",)])])

    def test_kinds(self):
        kinds = ["text", "integer", "text", "boolean", "integer", "text", "text"]
        self.assertEqual(told_of(office()), [("s0_t", ["id"] + NAMES, kinds, [])])

    def test_cells_without_writes(self):
        store = office(("row", T))
        self.assertEqual(told_of(store)[0][3], [("0.2.0", None, None, None, 0, "", None)])

    def test_values(self):
        row = (0, 2, 0)
        store = office(("row", T), ("put", row, NUMBER, -7), ("put", row, WORD, "it's"), ("put", row, TRUTH, False),
                       ("add", row, COUNT, 5), ("add", row, COUNT, -7), ("insert", row, LETTERS, None, "bc"),
                       ("insert", row, LETTERS, None, "a"), ("refer", row, LINK, row))
        self.assertEqual(told_of(store)[0][3], [("0.2.0", -7, "it's", False, -2, "abc", "0.2.0")])
        self.assertIs(told_of(store)[0][3][0][3], False)

    def test_a_reference_to_nothing(self):
        row = (0, 2, 0)
        store = office(("row", T), ("refer", row, LINK, row), ("refer", row, LINK, None))
        self.assertIsNone(told_of(store)[0][3][0][6])

    def test_great_counters(self):
        row = (0, 2, 0)
        most = 10 ** 40 - 1
        store = office(("row", T), ("add", row, COUNT, most), ("add", row, COUNT, most), ("add", row, COUNT, 1))
        self.assertEqual(told_of(store)[0][3][0][4], 2 * 10 ** 40 - 1)

    def test_long_letters(self):
        row = (0, 2, 0)
        store = office(("row", T))
        for k in range(11):
            make(store, 0, [("insert", row, LETTERS, None, "abcde" * 40)])
        self.assertEqual(told_of(store)[0][3][0][5], "abcde" * 440)

    def test_the_order_of_tables_columns_and_rows(self):
        store = group(3)
        table = (0, 2, 0)
        make(store, 0, [("table", "z")])
        heard = store.counts()
        for member in (2, 1):
            name = "xyz"[member]
            say(store, member, [("table", name), ("column", table, name, "text"), ("row", table)], heard=heard)
        expected = [("s0_z", ["id", "y", "z"], ["text"] * 3, [("1.1.2", None, None), ("2.1.2", None, None)]),
                    ("s0_y", ["id"], ["text"], [])]
        self.assertEqual(told_of(store), expected)

    def test_tables_that_do_not_hold_their_names(self):
        store = Store(1)
        make(store, 0,
             [("table", "a"), ("table", "a"), ("row", T), ("row", (0, 1, 1)), ("column", (0, 1, 1), "x", "text")])
        self.assertEqual(told_of(store), [("s0_a", ["id"], ["text"], [("0.1.2",)])])

    def test_columns_that_do_not_hold_their_names(self):
        store = Store(1)
        row = (0, 1, 5)
        make(store, 0, [("table", "a"), ("column", T, "id", "integer"), ("column", T, "x", "text"),
                        ("column", T, "x", "integer"), ("column", T, "y", "boolean"), ("row", T),
                        ("put", row, (0, 1, 1), 1), ("put", row, (0, 1, 2), "b"), ("put", row, (0, 1, 3), 2)])
        expected = [("s0_a", ["id", "x", "y"], ["text", "text", "boolean"], [("0.1.5", "b", None)])]
        self.assertEqual(told_of(store), expected)

    def test_only_rows_that_show(self):
        store = office()
        make(store, 0, [("unique", T, (NUMBER,))] + [("row", T)] * 5)
        first, second, third, fourth, fifth = [(0, 2, place) for place in range(1, 6)]
        make(store, 0, [("put", first, NUMBER, 1), ("put", second, NUMBER, 1), ("refer", third, LINK, second),
                        ("drop", fourth), ("refer", fifth, LINK, first)])
        rows = told_of(store)[0][3]
        self.assertEqual([(row[0], row[6]) for row in rows], [("0.2.1", None), ("0.2.5", "0.2.1")])

    def test_a_rule_over_a_column_that_does_not_hold_its_name(self):
        store = Store(1)
        column = (0, 1, 2)
        rows = [(0, 1, 4), (0, 1, 5)]
        make(store, 0,
             [("table", "a"), ("column", T, "x", "text"), ("column", T, "x", "text"), ("unique", T, (column,)),
                        ("row", T), ("row", T)] + [("put", row, column, "a") for row in rows])
        self.assertEqual(told_of(store)[0][3], [("0.1.4", None)])


class Spaces(unittest.TestCase):
    def setUp(self):
        self.store = Store(1)
        parts = [[("table", "t"), ("column", T, "x" + str(space), "text")] for space in range(4)]
        parts[2] = []
        make(self.store, 0, parts=parts)

    def test_names_have_the_space(self):
        self.assertEqual(told_of(self.store, 3), [("s3_t", ["id", "x3"], ["text", "text"], [])])
        self.assertEqual(told_of(self.store, 2), [])

    def test_all_spaces(self):
        found = all_sources(self.store)
        self.assertEqual(list(found), ["s0_t", "s1_t", "s3_t"])
        for name in found:
            self.assertEqual(told(found[name]), (name, ["id", "x" + name[1]], ["text", "text"], []))

    def test_names_that_look_alike(self):
        store = Store(1)
        make(store, 0, parts=[[("table", "s1_t"), ("table", "t")], [("table", "t")], [], []])
        self.assertEqual(list(all_sources(store)), ["s0_s1_t", "s0_t", "s1_t"])

    def test_what_a_space_depends_on(self):
        store = group(2)
        make(store, 0, SETUP)
        say(store, 1, [("row", (0, 2, 0))])
        before = told_of(store)
        other = Store(2)
        for change in store.all_changes():
            other.add(Change(*change.header(), change.parts[:1] + (None, [("table", "other")], None)))
        other.kept[1] = None
        other.kept[2] = Kept([((0, 1, 0), ("table", "z"))], [], [])
        self.assertEqual(told_of(other), before)
        self.assertEqual(len(before[0][3]), 1)

    def test_an_unknown_part_has_no_acts(self):
        store = group(2)
        make(store, 0, SETUP)
        make(store, 0, parts=[None, [], [], []])
        self.assertEqual(len(told_of(store)), 1)
        store.changes[0][1] = store.changes[0][1].with_parts([None, (), (), ()])
        self.assertEqual(told_of(store), [])

    def test_changes_that_do_not_count(self):
        store = Store(2)
        make(store, 0, [("table", "t")], publics=[grant(1, (NONE, WRITE, NONE, NONE)), grant(1, NOTHING)])
        table = [("table", "u")]
        make(store, 1, capability=own(1), parts=[table, table, (), ()])
        make(store, 1, capability=(0, 1, 1), parts=[(), [("table", "v")], (), ()])
        self.assertEqual(list(all_sources(store)), ["s0_t", "s1_u"])


class Given(unittest.TestCase):
    def test_a_source_keeps_its_own_lists(self):
        columns, kinds, rows = ["id", "x"], ["text", "integer"], [("a", 1)]
        source = Source("t", columns, kinds, rows)
        for given in (columns, kinds, rows):
            given.clear()
        self.assertEqual(told(source), ("t", ["id", "x"], ["text", "integer"], [("a", 1)]))

    def test_what_is_returned_is_not_shared(self):
        store = office(("row", T))
        before = told_of(store)
        for found in (sources(store, verdicts(store), 0), list(all_sources(store).values())):
            for given in (found[0].rows, found[0].columns, found[0].kinds, found):
                given.clear()
        self.assertEqual(told_of(store), before)
        self.assertEqual(told(all_sources(store)["s0_t"]), before[0])

    def test_the_store_stays_as_it_is(self):
        store = office(("row", T))
        before = store.data()
        all_sources(store)
        self.assertEqual(store.data(), before)


if __name__ == "__main__":
    unittest.main()
