"""Points 90 to 95: cutting the past away, and what is kept of it."""

import random
import unittest

from builders import ALL, BOTH, EVERYTHING, NONE, NOTHING, SEAL, WRITE, grant, group, make, own, revoke, say
from kithbase.changes import in_past
from kithbase.cutting import before_seal, cut_at, is_known, is_known_to, kept_capabilities, kept_of, last_seal
from kithbase.rights import allowed_seals, verdicts
from kithbase.sheets import Sheet
from kithbase.sources import sources
from kithbase.store import SPACES, Kept, Store, is_whole
from kithbase.yielding import conflicts
from worlds import random_world

T, N, W, REF, COUNT, LETTERS = [(0, 2, place) for place in range(6)]
ROW, OTHER = (0, 2, 6), (0, 2, 7)
SETUP = [("table", "t"), ("column", T, "n", "integer"), ("column", T, "w", "text"), ("column", T, "ref", ("refer", T)),
         ("column", T, "c", "counter"), ("column", T, "l", "letters"), ("row", T), ("row", T)]
SPOTS = [(0, 2, place) for place in range(8)]


def office(members=3):
    store = group(members)
    say(store, 0, SETUP)
    return store


def seal(store, acts=(), heard=None):
    return make(store, 0, acts, heard, publics=[SEAL])


def kept(store, space=0):
    """Returns the spots of the kept acts, the sums and the texts, where all changes are cut away."""
    found = kept_of(store, space)
    return [spot for spot, act in found.acts], found.sums, found.texts


def told(store, space):
    """Returns all that is answered about a space."""
    allowed = verdicts(store)
    found = sources(store, allowed, space)
    return repr([[source.name, source.columns, source.kinds, source.rows] for source in found]
                + [conflicts(Sheet(store, allowed, space))])


class LastSeal(unittest.TestCase):
    def test_none(self):
        self.assertIsNone(last_seal(Store(1)))
        self.assertIsNone(last_seal(office()))

    def test_the_last_one(self):
        store = office()
        first = seal(store)
        self.assertEqual(last_seal(store).name(), first.name())
        say(store, 1)
        second = seal(store, heard=[3, 0, 0])
        self.assertEqual(last_seal(store).name(), second.name())
        say(store, 2)
        self.assertEqual(last_seal(store).name(), second.name())

    def test_one_that_is_not_allowed(self):
        store = office()
        make(store, 1, capability=own(1), publics=[SEAL])
        self.assertIsNone(last_seal(store))
        self.assertEqual(last_seal(seal_behind(store)).name(), (0, 3))

    def test_one_that_is_cut_away(self):
        store = office()
        self.assertIsNone(last_seal(cut_at(store, seal(store))))


def seal_behind(store):
    seal(store)
    return store


class BeforeSeal(unittest.TestCase):
    def test_the_past_and_the_seal(self):
        store = office()
        say(store, 1, [("put", ROW, N, 1)])
        say(store, 2, heard=[2, 0, 0])
        one = seal(store, heard=[2, 1, 0])
        say(store, 1)
        seal(store)
        before = before_seal(store, one)
        self.assertEqual(before.counts(), [3, 1, 0])
        self.assertEqual(sorted(change.name() for change in before.all_changes()), [(0, 1), (0, 2), (0, 3), (1, 1)])
        self.assertTrue(is_whole(before))

    def test_the_cut_and_what_is_kept_stay(self):
        store = office()
        store = cut_at(store, seal(store))
        say(store, 0)
        one = seal(store)
        say(store, 0)
        before = before_seal(store, one)
        self.assertEqual(before.data()[:3], store.data()[:3])
        self.assertEqual([change.name() for change in before.all_changes()], [(0, 4), (0, 5)])

    def test_nothing_is_shared(self):
        store = office()
        one = seal(store)
        told_before = store.data()
        before = before_seal(store, one)
        before.changes[0].clear()
        before.kept[0].acts.append(((0, 1, 0), ("table", "x")))
        before.cut[0] = 3
        before.capabilities.append(((0, 1, 0), None, 1, EVERYTHING))
        self.assertEqual(store.data(), told_before)


class Capabilities(unittest.TestCase):
    def test_none_is_not_kept(self):
        self.assertEqual(kept_capabilities(Store(1)), [])

    def test_what_is_held(self):
        store = Store(3)
        make(store, 0, publics=[grant(2, NOTHING), grant(1)])
        make(store, 1, capability=(0, 1, 1), publics=[grant(2, (ALL, NONE, NONE, BOTH))])
        self.assertEqual(kept_capabilities(store),
                         [((0, 1, 0), None, 2, NOTHING), ((0, 1, 1), None, 1, EVERYTHING),
                          ((1, 1, 0), (0, 1, 1), 2, (ALL, NONE, NONE, BOTH))])

    def test_they_stand_in_the_order_of_their_spots(self):
        store = Store(3)
        make(store, 0, publics=[grant(1)])
        make(store, 1, capability=(0, 1, 0), publics=[grant(2), grant(2)])
        make(store, 0, publics=[grant(2)])
        store.capabilities = [((0, 0, 9), None, 1, EVERYTHING), ((2, 1, 0), None, 2, NOTHING)]
        self.assertEqual([entry[0] for entry in kept_capabilities(store)],
                         [(0, 0, 9), (0, 1, 0), (0, 2, 0), (1, 1, 0), (1, 1, 1), (2, 1, 0)])

    def test_revoked_ones(self):
        store = group(3)
        say(store, 1, publics=[grant(2)])
        say(store, 0, publics=[revoke(own(1))])
        self.assertEqual([entry[0] for entry in kept_capabilities(store)], [own(2)])

    def test_those_of_changes_that_are_not_allowed(self):
        store = group(3, (BOTH,) * 4)
        say(store, 1, publics=[grant(2, (BOTH,) * 4)])
        self.assertEqual([entry[0] for entry in kept_capabilities(store)], [own(1), own(2)])

    def test_those_that_were_kept_before(self):
        store = Store(3)
        store.cut = [2, 0, 0]
        store.capabilities = [((0, 1, 0), None, 1, EVERYTHING), ((0, 2, 0), None, 2, EVERYTHING)]
        make(store, 0, publics=[revoke((0, 1, 0))])
        make(store, 2, capability=(0, 2, 0), publics=[grant(1)])
        self.assertEqual([entry[:3] for entry in kept_capabilities(store)],
                         [((0, 2, 0), None, 2), ((2, 1, 0), (0, 2, 0), 1)])

    def test_a_new_list(self):
        store = group(2)
        kept_capabilities(store).clear()
        self.assertEqual(len(kept_capabilities(store)), 1)


class KeptActs(unittest.TestCase):
    def test_tables_columns_and_live_rows(self):
        self.assertEqual(kept(office()), (SPOTS, [], []))
        self.assertEqual([act for spot, act in kept_of(office(), 0).acts], SETUP)

    def test_an_empty_space(self):
        self.assertEqual(kept_of(office(), 1).data(), ((), (), ()))

    def test_rules(self):
        store = office()
        say(store, 0, [("unique", T, (N,)), ("unique", T, ()), ("unique", T, (COUNT,)), ("unique", T, (W, N))])
        self.assertEqual(kept(store)[0], SPOTS + [(0, 3, 0), (0, 3, 3)])

    def test_what_makes_nothing(self):
        store = office()
        say(store, 0, [("column", (0, 9, 0), "x", "integer"), ("row", (0, 9, 0)), ("row", ROW),
                       ("column", ROW, "x", "text")])
        self.assertEqual(kept(store)[0], SPOTS)

    def test_tables_that_do_not_hold_their_names(self):
        store = office()
        say(store, 0, [("table", "t"), ("column", T, "n", "text"), ("column", T, "id", "text")])
        self.assertEqual(kept(store)[0], SPOTS + [(0, 3, 0), (0, 3, 1), (0, 3, 2)])

    def test_dropped_rows(self):
        store = office()
        say(store, 0, [("put", ROW, N, 1), ("put", OTHER, N, 2), ("add", ROW, COUNT, 3),
                       ("insert", ROW, LETTERS, None, "x"), ("drop", ROW)])
        self.assertEqual(kept(store), (SPOTS[:6] + [OTHER, (0, 3, 1)], [], []))

    def test_rows_that_yield_are_live(self):
        store = office()
        say(store, 0, [("unique", T, (N,)), ("put", ROW, N, 1), ("put", OTHER, N, 1)])
        self.assertEqual(kept(store)[0], SPOTS + [(0, 3, 0), (0, 3, 1), (0, 3, 2)])

    def test_writes_that_show(self):
        store = office()
        heard = store.counts()
        say(store, 0, [("put", ROW, N, 1), ("put", ROW, N, 2), ("put", ROW, N, "no")])
        say(store, 1, [("put", ROW, N, 3)], heard)
        say(store, 2, [("put", ROW, N, 4), ("refer", OTHER, REF, ROW)], heard)
        self.assertEqual(kept(store)[0], SPOTS + [(0, 3, 1), (1, 1, 0), (2, 1, 0), (2, 1, 1)])
        say(store, 1, [("put", ROW, N, None)])
        self.assertEqual(kept(store)[0], SPOTS + [(2, 1, 1), (1, 2, 0)])

    def test_undone_ones(self):
        store = office()
        say(store, 0, [("put", ROW, N, 1), ("row", T)])
        say(store, 0, [("put", ROW, N, 2), ("row", T)])
        say(store, 0, [("undo", (0, 4))])
        self.assertEqual(kept(store)[0], SPOTS + [(0, 3, 0), (0, 3, 1)])

    def test_those_of_changes_that_do_not_count(self):
        store = office()
        say(store, 0, publics=[revoke(own(1))])
        say(store, 1, [("put", ROW, N, 1)])
        make(store, 2, [("put", ROW, N, 2)])
        self.assertEqual(kept(store)[0], SPOTS)

    def test_the_order_of_the_effective_acts(self):
        store = Store(2)
        make(store, 0, publics=[grant(1)])
        make(store, 0, [("table", "a"), ("row", (0, 2, 0)), ("column", (0, 2, 0), "x", "integer")])
        make(store, 1, [("table", "b"), ("row", (1, 1, 0))], heard=[1, 0], capability=(0, 1, 0))
        make(store, 0, [("put", (0, 2, 1), (0, 2, 2), 3), ("column", (0, 2, 0), "y", "text"), ("row", (0, 2, 0))])
        self.assertEqual(kept(store)[0], [(0, 2, 0), (0, 2, 1), (0, 2, 2), (1, 1, 0), (1, 1, 1), (0, 3, 0), (0, 3, 1),
                                          (0, 3, 2)])

    def test_what_was_kept_before(self):
        store = office()
        say(store, 0, [("put", ROW, N, 1), ("put", OTHER, N, 1)])
        store = cut_at(store, seal(store))
        say(store, 0, [("row", T), ("put", ROW, N, 2), ("drop", OTHER)])
        self.assertEqual(kept(store)[0], SPOTS[:7] + [(0, 5, 0), (0, 5, 1)])

    def test_another_space(self):
        store = group(2)
        make(store, 0, parts=[[], [], [("table", "t")], []])
        self.assertEqual(kept(store, 2), ([(0, 2, 0)], [], []))
        self.assertEqual(kept(store, 0), ([], [], []))


class KeptSums(unittest.TestCase):
    def test_sums(self):
        store = office()
        say(store, 0, [("add", ROW, COUNT, 3), ("add", OTHER, COUNT, 1)])
        say(store, 1, [("add", ROW, COUNT, -5)])
        self.assertEqual(kept(store)[1], [((ROW, COUNT), -2), ((OTHER, COUNT), 1)])

    def test_sums_of_zero(self):
        store = office()
        say(store, 0, [("add", ROW, COUNT, 3), ("add", OTHER, COUNT, 0)])
        say(store, 1, [("add", ROW, COUNT, -3)])
        self.assertEqual(kept(store)[1], [])

    def test_a_sum_beyond_all_bounds(self):
        store = office()
        most = 10 ** 40 - 1
        say(store, 0, [("add", ROW, COUNT, most), ("add", ROW, COUNT, most)])
        self.assertEqual(kept(store)[1], [((ROW, COUNT), 2 * most)])

    def test_the_order_of_tables_rows_and_columns(self):
        store = Store(1)
        make(store, 0, [("table", "b"), ("table", "a"), ("row", (0, 1, 1)), ("row", (0, 1, 0)), ("row", (0, 1, 1)),
                        ("column", (0, 1, 1), "z", "counter"), ("column", (0, 1, 1), "a", "counter"),
                        ("column", (0, 1, 0), "x", "counter")])
        make(store, 0, [("add", (0, 1, 4), (0, 1, 6), 1), ("add", (0, 1, 4), (0, 1, 5), 2),
                        ("add", (0, 1, 2), (0, 1, 6), 3),
                        ("add", (0, 1, 3), (0, 1, 7), 4)])
        self.assertEqual(kept(store)[1], [(((0, 1, 3), (0, 1, 7)), 4), (((0, 1, 2), (0, 1, 6)), 3),
                                          (((0, 1, 4), (0, 1, 5)), 2), (((0, 1, 4), (0, 1, 6)), 1)])

    def test_what_was_kept_before(self):
        store = office()
        say(store, 0, [("add", ROW, COUNT, 3), ("add", OTHER, COUNT, 2)])
        store = cut_at(store, seal(store))
        say(store, 0, [("add", ROW, COUNT, 4), ("add", OTHER, COUNT, -2)])
        self.assertEqual(kept(store)[1], [((ROW, COUNT), 7)])


class KeptTexts(unittest.TestCase):
    def test_characters_that_show(self):
        store = office()
        say(store, 0, [("insert", ROW, LETTERS, None, "ab"), ("insert", ROW, LETTERS, (0, 3, 0, 0), "x"),
                       ("remove", (0, 3, 0, 1)), ("insert", OTHER, LETTERS, None, "\n")])
        self.assertEqual(kept(store)[2], [((ROW, LETTERS), [((0, 3, 0, 0), "a"), ((0, 3, 1, 0), "x")]),
                                          ((OTHER, LETTERS), [((0, 3, 3, 0), "\n")])])

    def test_nothing_shows(self):
        store = office()
        say(store, 0, [("insert", ROW, LETTERS, None, "a"), ("remove", (0, 3, 0, 0)),
                       ("insert", OTHER, LETTERS, None, "")])
        self.assertEqual(kept(store)[2], [])

    def test_undone_ones(self):
        store = office()
        say(store, 0, [("insert", ROW, LETTERS, None, "a")])
        say(store, 0, [("insert", ROW, LETTERS, (0, 3, 0, 0), "b")])
        say(store, 0, [("undo", (0, 3))])
        self.assertEqual(kept(store)[2], [((ROW, LETTERS), [((0, 4, 0, 0), "b")])])

    def test_characters_in_a_column_of_another_kind(self):
        store = office()
        say(store, 0, [("insert", ROW, W, None, "a"), ("insert", ROW, COUNT, None, "b"), ("insert", ROW, T, None, "c")])
        self.assertEqual(kept(store)[2], [])

    def test_the_order_of_cells(self):
        store = office()
        say(store, 0, [("column", T, "k", "letters")])
        say(store, 0, [("insert", OTHER, (0, 3, 0), None, "a"), ("insert", OTHER, LETTERS, None, "b"),
                       ("insert", ROW, (0, 3, 0), None, "c")])
        self.assertEqual([cell for cell, pairs in kept(store)[2]],
                         [(ROW, (0, 3, 0)), (OTHER, LETTERS), (OTHER, (0, 3, 0))])

    def test_what_was_kept_before(self):
        store = office()
        say(store, 0, [("insert", ROW, LETTERS, None, "abc")])
        store = cut_at(store, seal(store))
        say(store, 0, [("remove", (0, 3, 0, 1)), ("insert", ROW, LETTERS, (0, 3, 0, 0), "x")])
        self.assertEqual(kept(store)[2], [((ROW, LETTERS), [((0, 3, 0, 0), "a"), ((0, 5, 1, 0), "x"),
                                                            ((0, 3, 0, 2), "c")])])


class Known(unittest.TestCase):
    def store(self):
        """Returns a store in which the part of one change for space 1 is not known."""
        store = office()
        say(store, 1, heard=[2, 0, 0])
        store.changes[1][0] = store.changes[1][0].with_parts([[], None, [], []])
        return store

    def test_a_part_that_is_not_known(self):
        store = self.store()
        self.assertEqual([is_known(store, space) for space in range(SPACES)], [True, False, True, True])
        self.assertIsNone(kept_of(store, 1))
        self.assertIsNotNone(kept_of(store, 0))

    def test_what_is_kept_is_not_known(self):
        store = office()
        store.kept[3] = None
        self.assertEqual([is_known(store, space) for space in range(SPACES)], [True, True, True, False])
        self.assertIsNone(kept_of(store, 3))
        one = seal(store)
        self.assertEqual([is_known_to(store, space, one) for space in range(SPACES)], [True, True, True, False])
        self.assertEqual([kept is None for kept in cut_at(store, one).kept], [False, False, False, True])

    def test_an_empty_store(self):
        self.assertEqual([is_known(Store(2), space) for space in range(SPACES)], [True] * 4)

    def known_to(self, store, one):
        return [is_known_to(store, space, one) for space in range(SPACES)]

    def test_before_the_seal(self):
        store = self.store()
        one = seal(store)
        self.assertEqual(self.known_to(store, one), [True, False, True, True])
        after = cut_at(store, one)
        self.assertEqual([kept is None for kept in after.kept], [False, True, False, False])
        self.assertEqual([is_known(after, space) for space in range(SPACES)], [True, False, True, True])

    def test_the_seal_itself(self):
        store = office()
        seal(store)
        store.changes[0][2] = store.changes[0][2].with_parts([None, [], [], []])
        self.assertEqual(self.known_to(store, store.changes[0][2]), [False, True, True, True])

    def test_behind_the_seal(self):
        store = office()
        one = seal(store)
        say(store, 1)
        store.changes[1][0] = store.changes[1][0].with_parts([None, None, [], []])
        self.assertEqual([is_known(store, space) for space in range(SPACES)], [False, False, True, True])
        self.assertEqual(self.known_to(store, one), [True] * 4)
        after = cut_at(store, one)
        self.assertEqual([is_known(after, space) for space in range(SPACES)], [False, False, True, True])
        self.assertEqual([kept is None for kept in after.kept], [False] * 4)

    def test_unrelated_to_the_seal(self):
        store = self.store()
        one = seal(store, heard=[2, 0, 0])
        self.assertEqual(self.known_to(store, one), [True] * 4)
        self.assertEqual([kept is None for kept in cut_at(store, one).kept], [False] * 4)


class Cut(unittest.TestCase):
    def test_the_past_of_the_seal_goes(self):
        store = office()
        say(store, 1, [("put", ROW, N, 1)])
        say(store, 2, [("put", ROW, N, 2)], heard=[2, 0, 0])
        one = seal(store, heard=[2, 1, 0])
        say(store, 1, [("put", ROW, W, "x")])
        after = cut_at(store, one)
        self.assertEqual(after.cut, [3, 1, 0])
        self.assertEqual([change.name() for change in after.all_changes()], [(2, 1), (1, 2)])
        self.assertEqual(after.counts(), store.counts())
        self.assertEqual([entry[0] for entry in after.capabilities], [own(1), own(2)])
        self.assertTrue(is_whole(after))

    def test_the_store_that_was_passed_does_not_change(self):
        store = office()
        one = seal(store)
        say(store, 0)
        before = store.data()
        after = cut_at(store, one)
        self.assertEqual(store.data(), before)
        after.changes[0][0].parts = ()
        after.changes[0].clear()
        after.kept[0].acts.clear()
        after.cut[0] = 0
        self.assertEqual(store.data(), before)

    def test_what_had_not_heard_the_seal_stays_and_is_not_allowed(self):
        store = office()
        one = seal(store)
        say(store, 1, [("put", ROW, N, 1)], heard=[2, 0, 0])
        before, after = verdicts(store), verdicts(cut_at(store, one))
        self.assertEqual((before[1, 1], after), (False, {(1, 1): False}))
        self.assertEqual(told(cut_at(store, one), 0), told(store, 0))

    def test_a_seal_in_the_middle(self):
        store = office()
        first = seal(store, [("put", ROW, N, 1), ("add", ROW, COUNT, 2)])
        say(store, 1, [("put", ROW, N, 2), ("add", ROW, COUNT, 2), ("undo", (0, 3))])
        second = seal(store, [("put", OTHER, N, 2)])
        say(store, 2, [("add", ROW, COUNT, 2), ("drop", OTHER)])
        for one in (first, second):
            after = cut_at(store, one)
            self.assertEqual(told(after, 0), told(store, 0))
        self.assertEqual(Sheet(after, verdicts(after), 0).entry(ROW, COUNT), 6)
        self.assertEqual(cut_at(cut_at(store, first), second).data(), cut_at(store, second).data())

    def test_later_changes_name_what_is_kept(self):
        store = office()
        say(store, 1, [("insert", ROW, LETTERS, None, "ac"), ("put", ROW, N, 1), ("refer", OTHER, REF, ROW)])
        one = seal(store)
        after = cut_at(store, one)
        for both in (store, after):
            say(both, 2, [("insert", ROW, LETTERS, (1, 1, 0, 0), "b"), ("remove", (1, 1, 0, 1)), ("put", ROW, N, 5),
                          ("row", T), ("refer", (2, 1, 3), REF, OTHER), ("unique", T, (REF,)), ("undo", (1, 1))])
            sheet = Sheet(both, verdicts(both), 0)
            self.assertEqual((sheet.entry(ROW, LETTERS), sheet.entry(ROW, N)), ("ab", 5))
            self.assertEqual(sheet.entry((2, 1, 3), REF), OTHER)
        self.assertEqual(told(after, 0), told(store, 0))
        self.assertEqual(verdicts(after), {(2, 1): True})

    def test_it_keeps_what_several_had_written(self):
        store = office()
        heard = store.counts()
        say(store, 1, [("put", ROW, N, 1)], heard)
        say(store, 2, [("put", ROW, N, 2)], heard)
        one = seal(store)
        after = cut_at(store, one)
        self.assertEqual(conflicts(Sheet(after, verdicts(after), 0)), ([], [], [(ROW, N, (1, 2))]))

    def test_spaces_that_are_not_known(self):
        store = group(2, (ALL, WRITE, NONE, NONE))
        make(store, 0, parts=[[("table", "t")], None, None, [("table", "q")]])
        one = seal(store)
        after = cut_at(store, one)
        self.assertEqual([kept and kept.data() for kept in after.kept],
                         [((((0, 2, 0), ("table", "t")),), (), ()), None, None,
                          ((((0, 2, 0), ("table", "q")),), (), ())])
        self.assertEqual(sources(after, verdicts(after), 1), [])


class Random(unittest.TestCase):
    def test_answers_and_verdicts(self):
        """The later changes are in the store when it is cut: the cut store is then the one that they are added to."""
        many = rows = 0
        for seed in range(60):
            chance = random.Random(1000 + seed)
            store = random_world(chance, chance.choice([1, 2, 3, 4]), chance.choice([15, 30])).store
            allowed = verdicts(store)
            whole = [told(store, space) for space in range(SPACES)]
            last = None
            for one in allowed_seals(store, allowed):
                data = store.data()
                after = cut_at(store, one)
                self.assertEqual(store.data(), data)
                self.assertEqual([told(after, space) for space in range(SPACES)], whole, (seed, one.name()))
                now = verdicts(after)
                self.assertEqual(now, {name: allowed[name] for name in now})
                gone = [name for name in allowed if name not in now]
                self.assertEqual(sorted(gone), sorted(name for name in allowed if in_past(name,
                                                                                          one) or name == one.name()))
                self.assertTrue(is_whole(after))
                if last is not None:
                    self.assertEqual(repr(cut_at(last, one).data()), repr(after.data()))
                last = after
                many += 1
                rows += sum(act[0] == "row" for spot, act in after.kept[0].acts)
        self.assertGreater(many, 60)
        self.assertGreater(rows, 200)

    def test_adding_behind_a_cut(self):
        for seed in range(20):
            chance = random.Random(2000 + seed)
            world = random_world(chance, 3, 20)
            one = last_seal(world.store)
            if one is None:
                continue
            after = cut_at(world.store, one)
            for step in range(8):
                world.step()
                # What is added is what the members make who know the whole past.
                for member in range(3):
                    for change in world.store.changes[member][after.count(member):]:
                        after.add(change)
                for space in range(SPACES):
                    self.assertEqual(told(after, space), told(world.store, space))
                now, allowed = verdicts(after), verdicts(world.store)
                self.assertEqual(now, {name: allowed[name] for name in now})


def kept_again(store, space):
    """Tells again what point 92 says."""
    sheet, acts, sums, texts = Sheet(store, verdicts(store), space), [], [], []
    rows = {row: table for table in sheet.tables for row in sheet.live[table]}
    made = sheet.tables + [spot for table in sheet.tables for part in (sheet.columns, sheet.rule_spots)
                           for spot in part[table]] + list(rows)
    for spot, act in sheet.acts:
        cell = act[1:3]
        if act[0] in ("put", "refer") and cell[0] in rows and spot in sheet.writes(*cell):
            others = sheet.writes(*cell)
            heard = [other for other in others if other != spot and knows_plainly(store, other, spot)]
            if not heard:
                acts.append((spot, act))
        elif spot in made:
            acts.append((spot, act))
    return [spot for spot, act in acts]


def knows_plainly(store, spot, other):
    change = store.find(spot[:2])
    if change is None:
        return False
    if spot[:2] == other[:2]:
        return other[2] < spot[2]
    return other[1] <= change.heard[other[0]]


class KeptAgain(unittest.TestCase):
    def test_random_stores(self):
        for seed in range(30):
            store = random_world(random.Random(3000 + seed), 3, 25).store
            for space in range(2):
                self.assertEqual(kept(store, space)[0], kept_again(store, space))
                one = last_seal(store)
                if one is not None:
                    after = cut_at(store, one)
                    self.assertEqual(kept(after, space)[0], kept_again(after, space))


if __name__ == "__main__":
    unittest.main()
