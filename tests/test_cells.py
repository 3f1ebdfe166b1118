"""Points 30 and 32: kinds of values, and the writes that show."""

import unittest

from builders import group, make, say
from kithbase.cells import has_kind, shown_writes
from kithbase.rights import verdicts
from kithbase.store import Store

REFER = ("refer", (0, 1, 0))
MOST = 10 ** 40 - 1


class Kinds(unittest.TestCase):
    def test_each_kind_of_column_with_each_kind_of_value(self):
        values = {"null": [None], "boolean": [True, False], "integer": [0, 1, -1, 5, MOST, -MOST],
                  "text": ["", "a", "1", "None", "a\nb", "x" * 2000]}
        fitting = {"integer": ["null", "integer"], "text": ["null", "text"], "boolean": ["null", "boolean"],
                   "counter": [], "letters": [], REFER: []}
        for holds in fitting:
            for kind in values:
                for value in values[kind]:
                    self.assertIs(has_kind(holds, value), kind in fitting[holds], (holds, value))

    def test_spots_are_no_values(self):
        for holds in ["integer", "text", "boolean", "counter", "letters", REFER]:
            self.assertIs(has_kind(holds, (0, 1, 0)), False)


class Shown(unittest.TestCase):
    def shown(self, store, writes):
        return shown_writes(store, verdicts(store), writes)

    def test_none_and_one(self):
        store = Store(1)
        make(store, 0, [("put", (0, 1, 0), (0, 1, 1), 5)])
        self.assertEqual(self.shown(store, []), [])
        self.assertEqual(self.shown(store, [(0, 1, 0)]), [(0, 1, 0)])

    def test_later_ones_of_a_change_hide_earlier_ones(self):
        store = Store(1)
        make(store, 0, [("put", (0, 1, 0), (0, 1, 1), k) for k in range(3)])
        self.assertEqual(self.shown(store, [(0, 1, 0), (0, 1, 1), (0, 1, 2)]), [(0, 1, 2)])
        self.assertEqual(self.shown(store, [(0, 1, 0), (0, 1, 1)]), [(0, 1, 1)])

    def test_concurrent_ones_show_together(self):
        store = group(3)
        for member in [1, 2]:
            say(store, member, heard=(1, 0, 0))
        make(store, 0, heard=(1, 0, 0))
        writes = [(0, 2, 0), (1, 1, 0), (2, 1, 0)]
        self.assertEqual(self.shown(store, writes), writes)
        self.assertEqual(self.shown(store, writes[1:]), writes[1:])
        say(store, 1, heard=(2, 1, 0))
        self.assertEqual(self.shown(store, writes + [(1, 2, 0)]), [(2, 1, 0), (1, 2, 0)])
        say(store, 2)
        self.assertEqual(self.shown(store, writes + [(1, 2, 0), (2, 2, 0)]), [(2, 2, 0)])

    def test_only_writes_of_the_list_hide(self):
        store = group(2)
        say(store, 1)
        say(store, 1)
        self.assertEqual(self.shown(store, [(1, 1, 0)]), [(1, 1, 0)])

    def test_a_hidden_write_hides_as_well(self):
        store = group(3)
        say(store, 1, heard=(1, 0, 0))
        say(store, 2, heard=(1, 1, 0))
        make(store, 0, heard=(1, 1, 1))
        self.assertEqual(self.shown(store, [(1, 1, 0), (2, 1, 0), (0, 2, 0)]), [(0, 2, 0)])

    def test_kept_writes(self):
        store = Store(2)
        store.cut = [3, 3]
        kept = [(0, 3, 1), (0, 3, 2), (1, 2, 0), (1, 3, 0)]
        # They showed when the past was cut away, so none of them hides another one.
        self.assertEqual(self.shown(store, kept), kept)
        make(store, 0)
        self.assertEqual(self.shown(store, kept + [(0, 4, 0)]), [(0, 4, 0)])

    def test_the_list_is_new_and_the_argument_stays(self):
        store = group(2)
        say(store, 1, heard=(1, 0))
        make(store, 0, heard=(1, 0))
        for writes in [[(0, 2, 0), (1, 1, 0)], [(1, 1, 0), (1, 1, 1)], [(0, 2, 0)], []]:
            before, data = list(writes), store.data()
            self.shown(store, writes).append(1)
            self.assertEqual(writes, before)
            self.assertEqual(store.data(), data)


if __name__ == "__main__":
    unittest.main()
