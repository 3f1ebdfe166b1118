"""Points 11 and 12: stores, and when they are whole."""

import unittest

from builders import make
from kithbase.changes import Change
from kithbase.store import SPACES, Kept, Store, is_whole

EMPTY = ((), (), ())
TABLE = ((0, 1, 0), ("table", "t"))
ROW = ((0, 1, 1), ("row", (0, 1, 0)))
CELL = ((0, 1, 1), (0, 1, 2))
SUM = (CELL, 5)
TEXT = (CELL, [((0, 1, 3, 0), "a"), ((0, 1, 3, 2), "b")])
CAPABILITY = ((0, 1, 0), None, 1, ((True, True, False),) * 4)


def change(author, number, heard, parts=((), (), (), ())):
    return Change(author, number, heard, None, (), parts)


def cut_store():
    """Returns a store of three members in which 2, 0 and 1 changes are cut away."""
    store = Store(3)
    store.cut = [2, 0, 1]
    store.capabilities = [CAPABILITY]
    store.kept[0] = Kept([TABLE, ROW], [SUM], [TEXT])
    store.kept[2] = None
    store.add(change(0, 3, (2, 0, 1), ((("row", (0, 1, 0)),), None, (), ())))
    store.add(change(0, 4, (3, 0, 1)))
    store.add(change(2, 2, (3, 0, 1)))
    return store


class WhatIsKept(unittest.TestCase):
    def test_attributes_and_data(self):
        kept = Kept([TABLE, ROW], [SUM], [TEXT])
        self.assertEqual((kept.acts, kept.sums, kept.texts), ([TABLE, ROW], [SUM], [TEXT]))
        text = (CELL, (((0, 1, 3, 0), "a"), ((0, 1, 3, 2), "b")))
        self.assertEqual(kept.data(), ((TABLE, ROW), (SUM,), (text,)))
        self.assertEqual(Kept([], [], []).data(), EMPTY)

    def test_later_changes_to_the_lists_have_no_effect(self):
        characters = [((0, 1, 3, 0), "a")]
        acts, sums, texts = [TABLE], [SUM], [(CELL, characters)]
        kept = Kept(acts, sums, texts)
        before = kept.data()
        acts.append(ROW)
        sums.clear()
        characters.append(((0, 1, 3, 1), "b"))
        texts.append((CELL, []))
        self.assertEqual(kept.data(), before)
        self.assertEqual(kept.texts, [(CELL, [((0, 1, 3, 0), "a")])])

    def test_the_lists_are_lists(self):
        kept = Kept((TABLE,), (SUM,), ((CELL, (((0, 1, 3, 0), "a"),)),))
        self.assertEqual((kept.acts, kept.sums, kept.texts), ([TABLE], [SUM], [(CELL, [((0, 1, 3, 0), "a")])]))

    def test_pairs_that_can_be_modified_are_not_shared(self):
        act, total, cell, mark = list(TABLE), list(SUM), list(CELL), [(0, 1, 3, 0), "a"]
        kept = Kept([act], [total], [(cell, [mark])])
        for pair in [act, total, cell, mark]:
            pair.clear()
        self.assertEqual(kept.data(), ((TABLE,), (SUM,), ((CELL, (((0, 1, 3, 0), "a"),)),)))


class Stores(unittest.TestCase):
    def test_an_empty_store(self):
        self.assertEqual(SPACES, 4)
        for members in range(1, 7):
            store = Store(members)
            self.assertEqual(store.members, members)
            self.assertEqual(store.cut, [0] * members)
            self.assertEqual(store.capabilities, [])
            self.assertEqual([kept.data() for kept in store.kept], [EMPTY] * 4)
            self.assertEqual(store.changes, [[]] * members)
            self.assertEqual(store.counts(), [0] * members)
            self.assertEqual(store.all_changes(), [])
            self.assertEqual(store.data(), ((0,) * members, (), (EMPTY,) * 4, ((),) * members))

    def test_the_lists_of_an_empty_store_are_apart(self):
        store, other = Store(2), Store(2)
        store.changes[0].append(change(0, 1, (0, 0)))
        store.kept[0].acts.append(TABLE)
        store.cut[1] = 4
        self.assertEqual(other.data(), Store(2).data())
        self.assertEqual(store.changes[1], [])
        self.assertEqual(store.kept[1].data(), EMPTY)

    def test_counts_include_what_is_cut_away(self):
        store = cut_store()
        self.assertEqual([store.count(member) for member in range(3)], [4, 0, 2])
        self.assertEqual(store.counts(), [4, 0, 2])

    def test_find(self):
        store = cut_store()
        self.assertIs(store.find((0, 3)), store.changes[0][0])
        self.assertIs(store.find((0, 4)), store.changes[0][1])
        self.assertIs(store.find((2, 2)), store.changes[2][0])
        for name in [(0, 5), (0, 2), (0, 1), (0, 0), (0, -1), (1, 1), (1, 0), (2, 1), (2, 3)]:
            self.assertIsNone(store.find(name), name)
        for author in [-1, -3, 3, 4]:
            self.assertIsNone(store.find((author, 2)), author)

    def test_find_where_nothing_is_cut_away(self):
        store = Store(2)
        made = [make(store, 1) for k in range(3)]
        self.assertEqual([store.find((1, k)) for k in range(5)], [None] + made + [None])
        self.assertEqual([store.find((1, -k)) for k in range(1, 5)], [None] * 4)

    def test_has(self):
        store = cut_store()
        for name in [(0, 1), (0, 2), (0, 3), (0, 4), (2, 1), (2, 2)]:
            self.assertIs(store.has(name), True, name)
        for name in [(0, 0), (0, -1), (0, -5), (0, 5), (1, 0), (1, 1), (2, 0), (2, 3)]:
            self.assertIs(store.has(name), False, name)
        for author in [-1, -2, -3, -4, 3, 4, 10 ** 14]:
            for number in [-1, 0, 1, 2]:
                self.assertIs(store.has((author, number)), False, (author, number))

    def test_all_changes_are_in_order_and_anew(self):
        store = cut_store()
        names = [(0, 3), (0, 4), (2, 2)]
        self.assertEqual([made.name() for made in store.all_changes()], names)
        store.all_changes().reverse()
        store.all_changes().clear()
        self.assertEqual([made.name() for made in store.all_changes()], names)

    def test_the_order_is_not_that_of_adding(self):
        store = Store(3)
        for name, heard in [((2, 1), (1, 0, 0)), ((2, 2), (1, 0, 1)), ((0, 1), (0, 0, 0)), ((1, 1), (0, 0, 0))]:
            store.add(change(name[0], name[1], heard))
        names = [made.name() for made in store.all_changes()]
        self.assertEqual(names, [(0, 1), (1, 1), (2, 1), (2, 2)])

    def test_add_appends_to_the_list_of_the_author(self):
        store = Store(2)
        first, second = change(1, 1, (0, 0)), change(1, 2, (0, 1))
        self.assertIsNone(store.add(first))
        store.add(second)
        self.assertEqual(store.changes, [[], [first, second]])
        self.assertEqual(store.counts(), [0, 2])

    def test_counts_are_a_new_list(self):
        store = cut_store()
        store.counts().append(1)
        store.counts()[0] = 9
        self.assertEqual(store.counts(), [4, 0, 2])


class DataAndCopies(unittest.TestCase):
    def test_data_in_its_exact_form(self):
        text = (CELL, (((0, 1, 3, 0), "a"), ((0, 1, 3, 2), "b")))
        none = ((), (), (), ())
        self.assertEqual(cut_store().data(), (
            (2, 0, 1),
            (CAPABILITY,),
            (((TABLE, ROW), (SUM,), (text,)), EMPTY, None, EMPTY),
            (((0, 3, (2, 0, 1), None, (), ((("row", (0, 1, 0)),), None, (), ())), (0, 4, (3, 0, 1), None, (), none)),
             (),
             ((2, 2, (3, 0, 1), None, (), none),))))

    def test_a_copy_has_equal_data(self):
        store = cut_store()
        other = store.copy()
        self.assertIsInstance(other, Store)
        self.assertEqual(other.data(), store.data())
        self.assertEqual(other.members, 3)
        self.assertEqual((type(other.cut), type(other.capabilities), type(other.kept)), (list, list, list))
        self.assertIsNone(other.kept[2])

    def test_nothing_done_to_a_copy_changes_the_store(self):
        store = cut_store()
        before = store.data()
        spoil(store.copy())
        self.assertEqual(store.data(), before)

    def test_nothing_done_to_the_store_changes_a_copy(self):
        store = cut_store()
        other = store.copy()
        before = other.data()
        spoil(store)
        self.assertEqual(other.data(), before)

    def test_an_entry_that_can_be_modified_is_not_shared(self):
        store = cut_store()
        store.capabilities = [list(CAPABILITY)]
        other = store.copy()
        store.capabilities[0].clear()
        self.assertEqual(other.data(), cut_store().data())

    def test_data_does_not_change_later(self):
        store = cut_store()
        data = store.data()
        spoil(store)
        self.assertEqual(data, cut_store().data())


def spoil(store):
    """Changes everything in a store that can be changed."""
    store.members = 1
    store.cut[0] = 9
    store.capabilities.append(CAPABILITY)
    store.kept[0].acts.clear()
    store.kept[0].sums.append(SUM)
    store.kept[0].texts[0][1].pop()
    store.kept[1] = None
    store.changes[2][0].heard = (9, 9, 9)
    store.add(change(1, 1, (0, 0, 0)))
    store.changes[0].clear()


class Whole(unittest.TestCase):
    def whole_store(self):
        """Returns a whole store of three members with three changes each."""
        store = Store(3)
        for turn in range(3):
            for author in range(3):
                make(store, author)
        return store

    def with_heard(self, store, name, heard):
        """Returns a copy of the store in which the change had heard something else."""
        other = store.copy()
        other.find(name).heard = heard
        return other

    def test_empty_stores_are_whole(self):
        for members in range(1, 7):
            self.assertIs(is_whole(Store(members)), True)
        cut = Store(2)
        cut.cut = [3, 1]
        self.assertIs(is_whole(cut), True)

    def test_ordinary_stores_are_whole(self):
        self.assertIs(is_whole(self.whole_store()), True)
        self.assertIs(is_whole(cut_store()), True)

    def test_the_number_of_entries(self):
        store = self.whole_store()
        for name in [(0, 1), (1, 2), (2, 3), (2, 1), (0, 3)]:
            heard = store.find(name).heard
            for wrong in [heard + (0,), heard[:-1], (), heard + heard]:
                self.assertIs(is_whole(self.with_heard(store, name, wrong)), False, (name, wrong))

    def test_the_own_number(self):
        store = self.whole_store()
        for author, number in [(0, 1), (0, 2), (1, 2), (2, 2), (2, 3), (1, 3)]:
            for step in [-1, 1]:
                heard = list(store.find((author, number)).heard)
                heard[author] += step
                if heard[author] < 0:
                    continue
                other = self.with_heard(store, (author, number), tuple(heard))
                self.assertIs(is_whole(other), False, (author, number, step))

    def test_the_own_number_alone(self):
        for number, heard in [(1, 1), (2, 0), (2, 2), (3, 1)]:
            store = Store(1)
            for k in range(1, 4):
                store.add(change(0, k, (k - 1,)))
            store.changes[0][number - 1] = change(0, number, (heard,))
            self.assertIs(is_whole(store), False, (number, heard))

    def test_what_was_heard_is_there(self):
        store = Store(3)
        make(store, 1)
        make(store, 1)
        for author in [0, 2]:
            for many, expected in [(0, True), (1, True), (2, True), (3, False), (9, False)]:
                other = store.copy()
                heard = [0, many, 0]
                other.add(change(author, 1, heard))
                self.assertIs(is_whole(other), expected, (author, many))

    def test_cut_away_changes_count_as_there(self):
        for many, expected in [(0, True), (1, True), (3, True), (4, True), (5, False)]:
            store = Store(2)
            store.cut = [0, 3]
            store.add(change(1, 4, (0, 3)))
            store.add(change(0, 1, (0, many)))
            self.assertIs(is_whole(store), expected, many)

    def test_who_heard_a_change_heard_what_it_had_heard(self):
        store = Store(3)
        make(store, 2)
        make(store, 1)
        for heard, expected in [((0, 1, 1), True), ((0, 0, 0), True), ((0, 0, 1), True), ((0, 1, 0), False)]:
            other = store.copy()
            other.add(change(0, 1, heard))
            self.assertIs(is_whole(other), expected, heard)

    def test_nobody_forgets(self):
        store = Store(2)
        make(store, 1)
        make(store, 0)
        make(store, 0, heard=(1, 0))
        self.assertIs(is_whole(store), False)
        store.changes[0][1] = change(0, 2, (1, 1))
        self.assertIs(is_whole(store), True)

    def test_only_the_last_change_of_each_member_tells(self):
        store = Store(2)
        store.cut = [2, 5]
        store.add(change(0, 3, (2, 5)))
        # These two had heard less of the other member than was cut away, which is no condition here.
        store.add(change(1, 6, (0, 5)))
        store.add(change(1, 7, (2, 6)))
        self.assertIs(is_whole(store), True)
        store.add(change(0, 4, (3, 4)))
        self.assertIs(is_whole(store), False)

    def test_two_changes_that_heard_each_other(self):
        store = Store(2)
        store.add(change(0, 1, (0, 1)))
        store.add(change(1, 1, (1, 0)))
        self.assertIs(is_whole(store), False)

    def test_a_fault_anywhere_is_found(self):
        store = self.whole_store()
        # Each lacks a change of one member that the last change it had heard of another member knew.
        wrong = {(1, 2): (0, 1, 1), (2, 3): (3, 1, 2), (0, 3): (2, 1, 2), (2, 2): (1, 2, 1)}
        for name in wrong:
            self.assertIs(is_whole(self.with_heard(store, name, wrong[name])), False, name)

    def test_nothing_is_changed(self):
        for store in [self.whole_store(), cut_store(), Store(2)]:
            before = store.data()
            is_whole(store)
            self.assertEqual(store.data(), before)
        broken = self.with_heard(self.whole_store(), (1, 2), ())
        before = broken.data()
        is_whole(broken)
        self.assertEqual(broken.data(), before)


if __name__ == "__main__":
    unittest.main()
