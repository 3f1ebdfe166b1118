"""Points 23 to 29: what acts know, undo, and effective acts."""

import unittest

from builders import NONE, READ, SEAL, WRITE, grant, group, make, own, revoke, say
from kithbase.rights import verdicts
from kithbase.store import Kept, Store
from kithbase.undo import effective_acts, is_closed, knows, taking_effect, undone_by

TABLE = ("table", "t")


def undo(*name):
    return ("undo", name)


def effects(store, space=0):
    """Returns the sorted names of the changes that take effect in the space."""
    takes = taking_effect(store, verdicts(store), space)
    return sorted(name for name in takes if takes[name])


class Knowing(unittest.TestCase):
    def store(self):
        """Returns a store of three members in which one change of members 0 and 1 is cut away."""
        store = Store(3)
        store.cut = [1, 1, 0]
        make(store, 0, [TABLE] * 3)
        make(store, 1, [TABLE] * 3, heard=(1, 1, 0))
        make(store, 0, [TABLE] * 3)
        return store

    def test_changes_in_the_past(self):
        store = self.store()
        for place in [0, 1, 2]:
            self.assertIs(knows(store, (0, 3, 0), (0, 2, place)), True)
            self.assertIs(knows(store, (0, 3, 0), (1, 2, place)), True)
            self.assertIs(knows(store, (0, 2, place), (0, 3, 0)), False)
            self.assertIs(knows(store, (0, 2, place), (1, 2, 0)), False)
            self.assertIs(knows(store, (1, 2, place), (0, 2, 0)), False)

    def test_the_same_change(self):
        store = self.store()
        for place in range(3):
            for other in range(3):
                self.assertIs(knows(store, (0, 2, place), (0, 2, other)), other < place, (place, other))

    def test_spots_that_are_cut_away(self):
        store = self.store()
        for name in [(0, 1), (1, 1)]:
            for place in [0, 1, 20]:
                self.assertIs(knows(store, (0, 2, 0), name + (place,)), True)
                self.assertIs(knows(store, (1, 2, 0), name + (place,)), True)
                # Acts that are cut away know nothing, not even what is cut away.
                self.assertIs(knows(store, name + (place,), (0, 1, 0)), False)
                self.assertIs(knows(store, name + (1,), name + (0,)), False)

    def test_who_had_not_heard_what_is_cut_away(self):
        store = self.store()
        make(store, 2, [TABLE], heard=(0, 0, 0))
        self.assertIs(knows(store, (2, 1, 0), (0, 1, 0)), True)
        self.assertIs(knows(store, (2, 1, 0), (0, 2, 0)), False)

    def test_changes_that_are_not_there(self):
        store = self.store()
        for spot in [(0, 9, 0), (0, 0, 0), (0, -1, 0), (5, 1, 0), (-1, 1, 0), (-2, 2, 0), (2, 1, 0)]:
            self.assertIs(knows(store, (0, 3, 0), spot), False, spot)
            self.assertIs(knows(store, spot, (0, 1, 0)), False, spot)


class Closing(unittest.TestCase):
    def store(self):
        """Returns a store of three members: a change of each, a seal that had not heard the last one, and more."""
        store = group(3)
        say(store, 1, [TABLE])
        say(store, 2, [TABLE])
        make(store, 0, [TABLE], heard=(1, 1, 0), publics=[SEAL])
        say(store, 1, [TABLE])
        return store

    def closed(self, store, spot, *names):
        allowed = verdicts(store)
        return [is_closed(store, allowed, spot, name) for name in names]

    def test_the_seal_and_its_past(self):
        store = self.store()
        self.assertEqual(self.closed(store, (1, 2, 0), (0, 1), (1, 1), (0, 2)), [True] * 3)

    def test_what_is_beside_or_after_the_seal(self):
        store = self.store()
        say(store, 1, [TABLE])
        self.assertEqual(self.closed(store, (1, 3, 0), (2, 1), (1, 2), (1, 3)), [False] * 3)

    def test_acts_that_do_not_come_after_the_seal(self):
        store = self.store()
        for spot in [(1, 1, 0), (2, 1, 0), (0, 1, 0), (0, 2, 0)]:
            self.assertEqual(self.closed(store, spot, (0, 1), (1, 1), (0, 2)), [False] * 3, spot)

    def test_seals_that_are_not_allowed(self):
        store = group(2)
        say(store, 1, [TABLE], publics=[SEAL])
        say(store, 1, [TABLE])
        self.assertEqual(self.closed(store, (1, 2, 0), (0, 1), (1, 1)), [False, False])

    def test_several_seals(self):
        store = self.store()
        make(store, 0, [TABLE], publics=[SEAL], heard=(2, 2, 0))
        say(store, 1, [TABLE])
        names = [(0, 1), (1, 1), (0, 2), (1, 2), (0, 3), (1, 3)]
        self.assertEqual(self.closed(store, (1, 3, 0), *names), [True] * 5 + [False])
        self.assertEqual(self.closed(store, (1, 2, 0), *names), [True] * 3 + [False] * 3)
        self.assertEqual(self.closed(store, (0, 3, 0), *names), [True] * 3 + [False] * 3)

    def test_what_is_cut_away(self):
        store = Store(2)
        store.cut = [2, 1]
        make(store, 0, [TABLE])
        names = [(0, 1), (0, 2), (1, 1), (0, 3), (1, 2), (0, 0), (0, -1), (2, 1), (-1, 1), (-2, 1)]
        self.assertEqual(self.closed(store, (0, 3, 0), *names), [True] * 3 + [False] * 7)


class Undoing(unittest.TestCase):
    def undone(self, store, change, space=0):
        return undone_by(store, verdicts(store), change, space)

    def test_in_the_order_of_the_acts_each_once(self):
        store = group(2)
        say(store, 1, [TABLE])
        change = make(store, 0, [undo(1, 1), TABLE, undo(0, 1), undo(1, 1), ("row", (0, 1, 0)), undo(0, 1)])
        self.assertEqual(self.undone(store, change), [(1, 1), (0, 1)])

    def test_only_what_was_heard_of(self):
        store = group(2)
        say(store, 1, [TABLE])
        acts = [undo(1, 1), undo(0, 2), undo(0, 3), undo(5, 1), undo(-1, 1), undo(0, 0), undo(0, 1)]
        self.assertEqual(self.undone(store, make(store, 0, acts, heard=(1, 0))), [(0, 1)])

    def test_each_space_by_itself(self):
        store = group(2)
        say(store, 1, [TABLE])
        change = make(store, 0, parts=[[undo(1, 1)], [], None, [undo(0, 1), undo(1, 1)]])
        found = [self.undone(store, change, space) for space in range(4)]
        self.assertEqual(found, [[(1, 1)], [], [], [(0, 1), (1, 1)]])

    def test_what_is_closed(self):
        store = group(2)
        say(store, 1, [TABLE])
        make(store, 0, [undo(1, 1)], publics=[SEAL])
        say(store, 1, [TABLE])
        acts = [undo(0, 1), undo(1, 1), undo(0, 2), undo(1, 2)]
        self.assertEqual(self.undone(store, make(store, 0, acts)), [(1, 2)])
        # The seal itself does not close what it had heard for its own acts.
        self.assertEqual(self.undone(store, store.find((0, 2))), [(1, 1)])

    def test_what_is_cut_away(self):
        store = Store(2)
        store.cut = [1, 1]
        make(store, 0, [undo(0, 1), undo(1, 1)])
        change = make(store, 0, [undo(0, 1), undo(1, 1), undo(0, 2)])
        self.assertEqual(self.undone(store, change), [(0, 2)])

    def test_the_list_is_new(self):
        store = group(2)
        change = make(store, 0, [undo(0, 1)])
        self.undone(store, change).clear()
        self.assertEqual(self.undone(store, change), [(0, 1)])


class Effect(unittest.TestCase):
    def test_all_names_are_told(self):
        store = group(2)
        make(store, 1)
        say(store, 1)
        self.assertEqual(taking_effect(store, verdicts(store), 0), {(0, 1): True, (1, 1): False, (1, 2): True})
        self.assertEqual(taking_effect(Store(2), {}, 0), {})

    def test_only_what_counts_takes_effect(self):
        store = group(2, (WRITE, READ, NONE, WRITE))
        say(store, 1)
        self.assertEqual([(1, 1) in effects(store, space) for space in range(4)], [True, False, False, True])

    def test_undo(self):
        store = group(2)
        say(store, 1, [TABLE])
        make(store, 0, [undo(1, 1)])
        self.assertEqual(effects(store), [(0, 1), (0, 2)])
        for space in [1, 2, 3]:
            self.assertEqual(effects(store, space), [(0, 1), (0, 2), (1, 1)])

    def test_undo_of_an_undo_and_so_on(self):
        store = group(2)
        say(store, 1, [TABLE])
        for number in range(2, 8):
            make(store, 0, [undo(1, 1) if number == 2 else undo(0, number - 1)])
            self.assertEqual((1, 1) in effects(store), number % 2 == 1, number)
            self.assertEqual((0, number) in effects(store), True)
            self.assertEqual((0, number - 1) in effects(store), number == 2, number)

    def test_several_undo_one_change(self):
        store = group(2)
        say(store, 1, [TABLE])
        make(store, 0, [undo(1, 1)])
        make(store, 0, [undo(1, 1)])
        make(store, 0, [undo(0, 3)])
        self.assertEqual(effects(store), [(0, 1), (0, 2), (0, 4)])
        make(store, 0, [undo(0, 2)])
        self.assertEqual(effects(store), [(0, 1), (0, 4), (0, 5), (1, 1)])

    def test_concurrent_undos(self):
        store = group(3)
        say(store, 1, [TABLE])
        say(store, 1, [undo(1, 1)], heard=(1, 1, 0))
        say(store, 2, [undo(1, 1)], heard=(1, 1, 0))
        say(store, 1, [undo(1, 2)], heard=(1, 2, 0))
        self.assertEqual(effects(store), [(0, 1), (1, 3), (2, 1)])

    def test_undos_that_do_not_count(self):
        store = group(3, (WRITE, NONE, NONE, NONE))
        make(store, 0, parts=[[TABLE], [TABLE], [], []])
        make(store, 1, [undo(0, 2)], capability=own(2))
        make(store, 1, capability=own(1), parts=[[], [undo(0, 2)], [], []])
        self.assertIn((0, 2), effects(store))
        self.assertIn((0, 2), effects(store, 1))

    def test_undos_of_changes_that_are_not_heard_of(self):
        store = group(2)
        make(store, 0, [undo(1, 1)])
        say(store, 1, [TABLE], heard=(1, 0))
        self.assertEqual(effects(store), [(0, 1), (0, 2), (1, 1)])

    def test_an_undone_change_may_still_grant_and_seal(self):
        store = group(2)
        make(store, 0, [undo(0, 1)])
        say(store, 1)
        self.assertEqual(effects(store), [(0, 2), (1, 1)])
        make(store, 0, publics=[SEAL])
        make(store, 0, [undo(0, 3), undo(1, 1)])
        self.assertEqual(effects(store), [(0, 2), (0, 3), (0, 4), (1, 1)])

    def test_closed_changes_are_not_undone(self):
        store = group(2)
        say(store, 1, [TABLE])
        make(store, 0, publics=[SEAL])
        make(store, 0, [undo(1, 1), undo(0, 2)])
        self.assertEqual(effects(store), [(0, 1), (0, 2), (0, 3), (1, 1)])

    def test_unknown_parts_undo_nothing(self):
        store = group(2)
        make(store, 0, parts=[None, [undo(0, 1)], [], []])
        self.assertEqual(effects(store), [(0, 1), (0, 2)])
        self.assertEqual(effects(store, 1), [(0, 2)])


class EffectiveActs(unittest.TestCase):
    def acts(self, store, space=0):
        return effective_acts(store, verdicts(store), space)

    def test_in_the_order_of_changes_and_indexes(self):
        store = group(3)
        say(store, 2, [("table", "c"), ("table", "d")])
        say(store, 1, [("table", "b")], heard=(1, 0, 0))
        make(store, 0, [("table", "e"), undo(1, 9), ("table", "f")])
        self.assertEqual(self.acts(store), [
            ((1, 1, 0), ("table", "b")), ((2, 1, 0), ("table", "c")), ((2, 1, 1), ("table", "d")),
            ((0, 2, 0), ("table", "e")), ((0, 2, 1), undo(1, 9)), ((0, 2, 2), ("table", "f"))])

    def test_each_space_by_itself(self):
        store = Store(1)
        make(store, 0, parts=[[("table", "a")], [("table", "b")], [], None])
        found = [self.acts(store, space) for space in range(4)]
        self.assertEqual(found, [[((0, 1, 0), ("table", "a"))], [((0, 1, 0), ("table", "b"))], [], []])

    def test_undone_and_uncounted_changes(self):
        store = group(2)
        say(store, 1, [TABLE])
        make(store, 1, [TABLE])
        make(store, 0, [undo(1, 1)])
        self.assertEqual(self.acts(store), [((0, 2, 0), undo(1, 1))])

    def test_kept_acts_come_first(self):
        store = Store(2)
        store.cut = [2, 1]
        kept = [((1, 1, 4), ("table", "a")), ((0, 1, 0), ("table", "b"))]
        store.kept[0] = Kept(kept, [], [])
        make(store, 0, [TABLE, undo(0, 1), undo(1, 1)])
        later = [((0, 3, 0), TABLE), ((0, 3, 1), undo(0, 1)), ((0, 3, 2), undo(1, 1))]
        self.assertEqual(self.acts(store), kept + later)
        self.assertEqual(self.acts(store, 1), [])
        store.kept[0] = None
        self.assertEqual(self.acts(store), later)

    def test_the_list_is_new(self):
        store = Store(1)
        store.cut = [1]
        store.kept[0] = Kept([((0, 1, 0), TABLE)], [], [])
        before = store.data()
        allowed = verdicts(store)
        self.acts(store).append(1)
        self.acts(store).clear()
        taking_effect(store, allowed, 0).clear()
        self.assertEqual(self.acts(store), [((0, 1, 0), TABLE)])
        self.assertEqual(store.data(), before)

    def test_no_call_changes_the_store_or_the_verdicts(self):
        store = group(2)
        say(store, 1, [TABLE])
        change = make(store, 0, [undo(1, 1)], publics=[SEAL, revoke(own(1))])
        allowed = verdicts(store)
        before = (store.data(), {name: allowed[name] for name in allowed})
        for space in range(4):
            effective_acts(store, allowed, space)
            taking_effect(store, allowed, space)
            undone_by(store, allowed, change, space)
        is_closed(store, allowed, (0, 2, 0), (1, 1))
        knows(store, (0, 2, 0), (1, 1, 0))
        self.assertEqual((store.data(), allowed), before)


if __name__ == "__main__":
    unittest.main()
