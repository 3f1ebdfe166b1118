"""Points 87 to 89: what is shown of a store, stores that agree, and joined stores."""

import random
import unittest

from builders import ALL, EVERYTHING, NONE, READ, SEAL, WRITE, grant, group, make, own, revoke, say
from kithbase.changes import Change
from kithbase.cutting import cut_at
from kithbase.rights import allowed_seals, may_read, verdicts
from kithbase.spaces import agree, joined, shown_to
from kithbase.store import SPACES, Kept, Store
from worlds import random_world

PARTS = [[("table", "a")], [("table", "b")], [], None]


def shown(store, member):
    """Returns which spaces of the last change of the founder are shown to the member."""
    return [part is not None for part in shown_to(store, member).changes[0][-1].parts]


class Shown(unittest.TestCase):
    def store(self, rights):
        store = group(3, rights)
        make(store, 0, parts=[[("table", "t")]] * 4)
        return store

    def test_the_founder_sees_everything(self):
        store = self.store((NONE, NONE, NONE, NONE))
        self.assertEqual(shown_to(store, 0).data(), store.data())

    def test_each_space_by_itself(self):
        for space in range(SPACES):
            rights = [NONE] * SPACES
            rights[space] = READ
            store = self.store(tuple(rights))
            self.assertEqual(shown(store, 1), [other == space for other in range(SPACES)])
            self.assertEqual(shown_to(store, 1).changes[0][1].parts[space], (("table", "t"),))

    def test_the_right_to_write_is_no_right_to_read(self):
        self.assertEqual(shown(self.store((WRITE, (False, False, True), ALL, READ)), 1), [False, False, True, True])

    def test_all_headers_are_shown(self):
        store = self.store((NONE, READ, NONE, NONE))
        say(store, 2, [("row", (0, 2, 0))], publics=[revoke((0, 1, 0))])
        seen = shown_to(store, 1)
        self.assertEqual([change.header() for change in seen.all_changes()],
                         [change.header() for change in store.all_changes()])
        self.assertEqual((seen.members, seen.cut, seen.capabilities), (3, [0, 0, 0], []))

    def test_a_space_that_cannot_be_read_has_nothing_kept_that_is_known(self):
        store = self.store((NONE, READ, NONE, NONE))
        store.kept[1] = Kept([((0, 1, 0), ("table", "x"))], [], [])
        found = shown_to(store, 1).kept
        self.assertEqual([kept is None for kept in found], [True, False, True, True])
        self.assertEqual(found[1].data(), store.kept[1].data())

    def test_a_capability_that_is_revoked(self):
        store = self.store(EVERYTHING)
        self.assertEqual(shown(store, 1), [True] * 4)
        say(store, 0, publics=[revoke(own(1))])
        self.assertEqual(shown(store, 1), [False] * 4)
        self.assertEqual(shown(store, 2), [True] * 4)

    def test_a_member_without_a_capability(self):
        store = Store(2)
        make(store, 0, parts=PARTS)
        self.assertEqual(shown(store, 1), [False] * 4)

    def test_own_changes_too(self):
        store = group(2, (WRITE, NONE, NONE, NONE))
        say(store, 1, [("table", "t")])
        self.assertEqual(shown_to(store, 1).changes[1][0].parts, (None,) * 4)

    def test_what_is_not_known(self):
        store = group(2)
        make(store, 0, parts=PARTS)
        store.kept[1] = None
        seen = shown_to(store, 1)
        self.assertEqual(seen.changes[0][1].parts, ((("table", "a"),), (("table", "b"),), (), None))
        self.assertEqual([kept is None for kept in seen.kept], [False, True, False, False])

    def test_a_cut_store(self):
        store = Store(2)
        store.cut = [3, 1]
        store.capabilities = [((0, 1, 0), None, 1, (NONE, NONE, READ, NONE))]
        make(store, 0, parts=[[], [], [("row", (0, 1, 0))], []])
        seen = shown_to(store, 1)
        self.assertEqual((seen.cut, seen.capabilities), (store.cut, store.capabilities))
        self.assertEqual(seen.changes[0][0].parts, (None, None, (("row", (0, 1, 0)),), None))
        self.assertEqual([kept is None for kept in seen.kept], [True, True, False, True])

    def test_nothing_is_shared(self):
        store = self.store(EVERYTHING)
        store.capabilities = [((0, 1, 0), None, 1, EVERYTHING)]
        before = store.data()
        for member in range(3):
            seen = shown_to(store, member)
            spoil(seen)
            self.assertEqual(store.data(), before)
        seen = shown_to(store, 1)
        told = seen.data()
        spoil(store)
        self.assertEqual(seen.data(), told)


def spoil(store):
    """Modifies everything in the store that can be modified."""
    store.cut[0] = 7
    store.capabilities.append(((0, 9, 0), None, 1, EVERYTHING))
    for kept in store.kept:
        if kept is not None:
            kept.acts.append(((0, 9, 0), ("table", "z")))
            kept.sums.append((((0, 9, 0), (0, 9, 1)), 3))
            for cell, characters in kept.texts:
                characters.clear()
            kept.texts.clear()
    store.kept[2] = None
    for changes in store.changes:
        for change in changes:
            change.parts = (None,) * 4
            change.heard = ()
        changes.clear()


class Agree(unittest.TestCase):
    def store(self, parts=PARTS, publics=(SEAL,), number=1):
        store = Store(2)
        store.cut = [number - 1, 2]
        store.capabilities = [((0, 1, 0), None, 1, EVERYTHING)]
        store.kept = [Kept([((0, 1, 0), ("table", "x"))], [(((0, 1, 0), (0, 1, 1)), 1)], []), Kept([], [], []), None,
                      None]
        make(store, 0, parts=parts, publics=publics)
        return store

    def assert_differs(self, other):
        self.assertTrue(agree(self.store(), self.store()))
        self.assertIs(agree(self.store(), other), False)
        self.assertIs(agree(other, self.store()), False)

    def test_a_store_with_itself(self):
        store = self.store()
        self.assertIs(agree(store, store), True)
        self.assertTrue(agree(store, store.copy()))
        self.assertTrue(agree(Store(3), Store(3)))

    def test_members(self):
        self.assertFalse(agree(Store(2), Store(3)))
        self.assertFalse(agree(Store(3), Store(2)))

    def test_the_cut(self):
        for cut in [[1, 2], [0, 1], [0, 3], [False, 2]]:
            other = self.store()
            other.cut = cut
            self.assert_differs(other)

    def test_kept_capabilities(self):
        entry = ((0, 1, 0), None, 1, EVERYTHING)
        ones = ((1, 1, 1),) * 4
        for capabilities in [[], [entry, entry], [((0, 1, 1),) + entry[1:]], [entry[:1] + ((0, 1, 0), 1, EVERYTHING)],
                             [entry[:2] + (0, EVERYTHING)], [entry[:3] + ((ALL, ALL, ALL, READ),)],
                             [entry[:2] + (True, EVERYTHING)], [entry[:3] + (ones,)]]:
            other = self.store()
            other.capabilities = capabilities
            self.assert_differs(other)

    def test_the_order_of_kept_capabilities(self):
        entries = [((0, 1, 0), None, 1, EVERYTHING), ((0, 1, 1), None, 1, EVERYTHING)]
        first, second = self.store(), self.store()
        first.capabilities, second.capabilities = entries, entries[::-1]
        self.assertFalse(agree(first, second))

    def test_headers(self):
        change = self.store().changes[0][0]
        for header in [(1, 1, (0, 0), None, (SEAL,)), (0, 2, (0, 0), None, (SEAL,)), (0, 1, (0, 1), None, (SEAL,)),
                       (0, 1, (0, 0), (0, 1, 0), (SEAL,)), (0, 1, (0, 0), None, ()), (False, 1, (0, 0), None, (SEAL,)),
                       (0, True, (0, 0), None, (SEAL,)), (0, 1, (0, False), None, (SEAL,))]:
            other = self.store()
            other.changes[0][0] = Change(*header, change.parts)
            self.assert_differs(other)

    def test_rights_in_a_header(self):
        first = self.store(publics=[grant(1, EVERYTHING)])
        second = self.store(publics=[grant(1, ((1, 1, 1),) * 4)])
        self.assertFalse(agree(first, second))
        self.assertFalse(agree(first, self.store(publics=[grant(True, EVERYTHING)])))
        self.assertTrue(agree(first, self.store(publics=[["grant", 1, [[True] * 3] * 4]])))

    def test_parts_that_both_know(self):
        self.assert_differs(self.store([[("table", "b")]] + PARTS[1:]))
        self.assert_differs(self.store([[]] + PARTS[1:]))
        self.assert_differs(self.store([[("table", "a"), ("table", "a")]] + PARTS[1:]))
        self.assert_differs(self.store(PARTS[:2] + [[("table", "a")], None]))

    def test_parts_that_one_knows(self):
        for parts in [PARTS[:3] + [[("table", "z")]], [None] * 4, [None] + PARTS[1:], PARTS[:2] + [None, []]]:
            self.assertIs(agree(self.store(), self.store(parts)), True)
            self.assertIs(agree(self.store(parts), self.store()), True)

    def test_true_in_the_place_of_one(self):
        row, column = (0, 1, 0), (0, 1, 1)
        for one, other in [(("put", row, column, True), ("put", row, column, 1)),
                           (("put", row, column, 0), ("put", row, column, False)),
                           (("row", (0, 1, True)), ("row", (0, 1, 1))),
                           (("unique", row, ((0, 1, 0),)), ("unique", row, ((0, 1, False),))),
                           (("column", row, "a", ("refer", (0, True, 0))), ("column", row, "a", ("refer", (0, 1, 0))))]:
            first, second = self.store([[one]] + PARTS[1:]), self.store([[other]] + PARTS[1:])
            self.assertFalse(agree(first, second))
            self.assertFalse(agree(second, first))
            self.assertTrue(agree(first, first.copy()))

    def test_kept_things_that_both_know(self):
        for kept in [Kept([], [], []), Kept([((0, 1, 0), ("table", "y"))], [(((0, 1, 0), (0, 1, 1)), 1)], []),
                     Kept([((0, 1, 0), ("table", "x"))], [(((0, 1, 0), (0, 1, 1)), True)], []),
                     Kept([((0, True, 0), ("table", "x"))], [(((0, 1, 0), (0, 1, 1)), 1)], []),
                     Kept([((0, 1, 0), ("table", "x"))], [(((0, 1, 0), (0, 1, 1)), 1)],
                          [(((0, 1, 0), (0, 1, 2)), [((0, 1, 3, 0), "a")])])]:
            other = self.store()
            other.kept[0] = kept
            self.assert_differs(other)

    def test_kept_texts(self):
        first, second = self.store(), self.store()
        first.kept[0].texts.append((((0, 1, 0), (0, 1, 2)), [((0, 1, 3, 0), "a")]))
        second.kept[0].texts.append((((0, 1, 0), (0, 1, 2)), [((0, 1, 3, 0), "b")]))
        self.assertFalse(agree(first, second))

    def test_kept_things_that_one_knows(self):
        other = self.store()
        other.kept = [None, None, Kept([((0, 1, 0), ("table", "q"))], [], []), None]
        self.assertTrue(agree(self.store(), other))
        self.assertTrue(agree(other, self.store()))

    def test_lists_of_different_lengths(self):
        other = self.store()
        make(other, 0)
        make(other, 1)
        self.assertTrue(agree(self.store(), other))
        self.assertTrue(agree(other, self.store()))
        other.changes[0][0] = other.changes[0][0].with_parts([[]] * 4)
        self.assertFalse(agree(other, self.store()))

    def test_a_later_change(self):
        first, second = self.store(), self.store()
        make(first, 1, [("table", "p")])
        make(second, 1, [("table", "q")])
        self.assertFalse(agree(first, second))

    def test_nothing_changes(self):
        first, second = self.store(), self.store([None] * 4)
        before = (first.data(), second.data())
        agree(first, second)
        self.assertEqual((first.data(), second.data()), before)


class Joined(unittest.TestCase):
    def two(self):
        first, second = Store(2), Store(2)
        for store in (first, second):
            store.cut = [1, 0]
            store.capabilities = [((0, 1, 0), None, 1, EVERYTHING)]
        first.kept = [Kept([((0, 1, 0), ("table", "a"))], [], []), None, None, Kept([], [], [])]
        second.kept = [None, Kept([((0, 1, 0), ("table", "b"))], [], []), None, Kept([], [], [])]
        make(first, 0, parts=[[("row", (0, 1, 0))], None, [], None])
        make(second, 0, parts=[None, [("row", (0, 1, 1))], [], None])
        make(first, 0)
        make(second, 1, parts=[None] * 4, heard=[2, 0])
        return first, second

    def test_both_ways(self):
        first, second = self.two()
        for store in [joined(first, second), joined(second, first)]:
            self.assertEqual((store.members, store.cut, store.capabilities), (2, [1, 0], first.capabilities))
            self.assertEqual(store.counts(), [3, 1])
            self.assertEqual(store.changes[0][0].parts, ((("row", (0, 1, 0)),), (("row", (0, 1, 1)),), (), None))
            self.assertEqual(store.changes[0][1].parts, ((), (), (), ()))
            self.assertEqual(store.changes[1][0].parts, (None,) * 4)
            self.assertEqual([None if kept is None else kept.data() for kept in store.kept],
                             [first.kept[0].data(), second.kept[1].data(), None, ((), (), ())])

    def test_a_store_with_itself(self):
        for store in self.two():
            self.assertEqual(joined(store, store).data(), store.data())
            self.assertEqual(joined(store, store.copy()).data(), store.data())

    def test_an_empty_part_is_known(self):
        first, second = Store(1), Store(1)
        make(first, 0, parts=[[], None, None, None])
        make(second, 0, parts=[None, None, None, None])
        self.assertEqual(joined(second, first).changes[0][0].parts, ((), None, None, None))
        self.assertEqual(joined(first, second).changes[0][0].parts, ((), None, None, None))

    def test_nothing_is_shared(self):
        first, second = self.two()
        before = (first.data(), second.data())
        both = joined(first, second)
        told = both.data()
        spoil(both)
        self.assertEqual((first.data(), second.data()), before)
        both = joined(first, second)
        spoil(first)
        spoil(second)
        self.assertEqual(both.data(), told)

    def test_nothing_is_shared_with_itself(self):
        store, _ = self.two()
        before = store.data()
        spoil(joined(store, store))
        self.assertEqual(store.data(), before)

    def test_what_is_shown_to_several_members_is_joined(self):
        for seed in range(10):
            store = random_world(random.Random(seed), 4, 20).store
            seals = allowed_seals(store, verdicts(store))
            for one in [store] + [cut_at(store, seal) for seal in seals[-1:]]:
                allowed = verdicts(one)
                for first in range(4):
                    for second in range(4):
                        mine, other = shown_to(one, first), shown_to(one, second)
                        self.assertTrue(agree(mine, other))
                        self.assertTrue(agree(mine, one))
                        self.assertEqual(joined(mine, one).data(), one.data())
                        both = joined(mine, other)
                        self.assertEqual(both.data(), joined(other, mine).data())
                        for space in range(SPACES):
                            seen = may_read(one, allowed, first, space) or may_read(one, allowed, second, space)
                            self.assertEqual(both.kept[space] is not None, seen)
                            for change in both.all_changes():
                                self.assertEqual(change.parts[space] is not None, seen)


if __name__ == "__main__":
    unittest.main()
