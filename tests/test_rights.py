"""Points 13 to 17, 21 and 22: capabilities, fitness, revocations, rights."""

import unittest

from builders import ALL, BOTH, EVERYTHING, NONE, NOTHING, READ, SEAL, WRITE, grant, group, make, own, revoke, say
from kithbase.rights import (allowed_seals, capability_info, counts_in, is_above, is_fit, is_held, may_read, revoked_by,
                             verdicts)
from kithbase.store import Store

KEPT = (0, 1, 0)
MIXED = (ALL, BOTH, READ, NONE)


def tree():
    """Returns a store of four members: the founder grants to 1, 1 grants to 2, and 2 grants to 3."""
    store = Store(4)
    make(store, 0, publics=[revoke(None), grant(1)])
    make(store, 1, capability=(0, 1, 1), publics=[grant(2), grant(3, MIXED)])
    make(store, 2, capability=(1, 1, 0), publics=[SEAL, grant(3, NOTHING)])
    make(store, 3, capability=(2, 1, 1))
    return store


def cut_store():
    """Returns a store of three members in which one change of the founder and one of member 1 are cut away."""
    store = Store(3)
    store.cut = [1, 1, 0]
    store.capabilities = [(KEPT, None, 1, EVERYTHING), ((1, 1, 0), KEPT, 2, MIXED)]
    return store


class Info(unittest.TestCase):
    def test_the_founders_capability(self):
        for store in [Store(1), tree(), cut_store()]:
            self.assertEqual(capability_info(store, None), (None, 0, EVERYTHING))

    def test_grants_in_the_store(self):
        store = tree()
        self.assertEqual(capability_info(store, (0, 1, 1)), (None, 1, EVERYTHING))
        self.assertEqual(capability_info(store, (1, 1, 0)), ((0, 1, 1), 2, EVERYTHING))
        self.assertEqual(capability_info(store, (1, 1, 1)), ((0, 1, 1), 3, MIXED))
        self.assertEqual(capability_info(store, (2, 1, 1)), ((1, 1, 0), 3, NOTHING))

    def test_other_public_acts(self):
        store = tree()
        self.assertIsNone(capability_info(store, (0, 1, 0)))
        self.assertIsNone(capability_info(store, (2, 1, 0)))

    def test_what_is_not_there(self):
        store = tree()
        for spot in [(0, 2, 0), (0, 0, 0), (0, -1, 1), (4, 1, 0), (-1, 1, 0), (-4, 1, 1), (3, 1, 0)]:
            self.assertIsNone(capability_info(store, spot), spot)
        for place in [2, 3, -1, -2, 100]:
            self.assertIsNone(capability_info(store, (0, 1, place)), place)
            self.assertIsNone(capability_info(store, (1, 1, place)), place)

    def test_kept_capabilities(self):
        store = cut_store()
        self.assertEqual(capability_info(store, KEPT), (None, 1, EVERYTHING))
        self.assertEqual(capability_info(store, (1, 1, 0)), (KEPT, 2, MIXED))
        # The changes that granted them are cut away, and so is everything else that they granted.
        self.assertIsNone(capability_info(store, (0, 1, 1)))
        self.assertIsNone(capability_info(store, (1, 1, 1)))

    def test_chains_that_reach_a_kept_capability(self):
        store = cut_store()
        make(store, 1, capability=KEPT, publics=[grant(2, MIXED)])
        make(store, 2, capability=(1, 2, 0), publics=[grant(1, NOTHING)])
        self.assertEqual(capability_info(store, (1, 2, 0)), (KEPT, 2, MIXED))
        self.assertEqual(capability_info(store, (2, 1, 0)), ((1, 2, 0), 1, NOTHING))

    def test_what_is_kept_is_there_whatever_its_parent(self):
        store = cut_store()
        store.capabilities.pop(0)
        make(store, 2, capability=(1, 1, 0), publics=[grant(1, NOTHING)])
        self.assertEqual(capability_info(store, (1, 1, 0)), (KEPT, 2, MIXED))
        self.assertEqual(capability_info(store, (2, 1, 0)), ((1, 1, 0), 1, NOTHING))
        self.assertIsNone(capability_info(store, KEPT))
        self.assertIs(is_above(store, None, (2, 1, 0)), True)
        self.assertIs(is_above(store, KEPT, (2, 1, 0)), False)

    def test_chains_that_reach_neither(self):
        store = cut_store()
        make(store, 1, capability=(0, 1, 5), publics=[grant(2)])
        make(store, 2, capability=(1, 2, 0), publics=[grant(1)])
        for spot in [(0, 1, 5), (1, 2, 0), (2, 1, 0)]:
            self.assertIsNone(capability_info(store, spot), spot)

    def test_chains_that_go_round(self):
        store = Store(2)
        make(store, 0, capability=(1, 1, 0), publics=[grant(1)])
        make(store, 1, capability=(0, 1, 0), publics=[grant(0), grant(1)])
        make(store, 0, capability=(0, 2, 0), publics=[grant(1)])
        for spot in [(0, 1, 0), (1, 1, 0), (1, 1, 1), (0, 2, 0)]:
            self.assertIsNone(capability_info(store, spot), spot)
            self.assertIs(is_above(store, spot, spot), False, spot)

    def test_chains_do_not_depend_on_verdicts(self):
        store = Store(2)
        make(store, 1, publics=[grant(0)])
        self.assertEqual(verdicts(store), {(1, 1): False})
        self.assertEqual(capability_info(store, (1, 1, 0)), (None, 0, EVERYTHING))


class Above(unittest.TestCase):
    def test_a_line_of_capabilities(self):
        store = tree()
        line = [None, (0, 1, 1), (1, 1, 0), (2, 1, 1)]
        for high, first in enumerate(line):
            for low, second in enumerate(line):
                self.assertIs(is_above(store, first, second), high <= low, (first, second))

    def test_siblings(self):
        store = tree()
        self.assertIs(is_above(store, (1, 1, 0), (1, 1, 1)), False)
        self.assertIs(is_above(store, (1, 1, 1), (1, 1, 0)), False)
        self.assertIs(is_above(store, (1, 1, 1), (2, 1, 1)), False)

    def test_what_is_not_there(self):
        store = tree()
        for spot in [(0, 1, 0), (0, 1, 2), (2, 1, 0), (0, 9, 0)]:
            for other in [None, (0, 1, 1), spot]:
                self.assertIs(is_above(store, spot, other), False)
                self.assertIs(is_above(store, other, spot), False)

    def test_kept_capabilities(self):
        store = cut_store()
        make(store, 2, capability=(1, 1, 0), publics=[grant(1)])
        line = [None, KEPT, (1, 1, 0), (2, 1, 0)]
        for high, first in enumerate(line):
            for low, second in enumerate(line):
                self.assertIs(is_above(store, first, second), high <= low, (first, second))


class Fit(unittest.TestCase):
    def fitness(self, store, *given, **more):
        """Tells whether the change that would be made is fit; it is not left in the store."""
        change = make(store, *given, **more)
        inside = is_fit(store, change)
        store.changes[change.author].pop()
        # A change need not be in the store to be fit in it.
        self.assertIs(is_fit(store, change), inside)
        return inside

    def test_ordinary_changes(self):
        store = tree()
        self.assertIs(self.fitness(store, 0), True)
        self.assertIs(self.fitness(store, 0, publics=[SEAL, grant(5), revoke((0, 9, 9))]), True)
        self.assertIs(self.fitness(store, 1, capability=(0, 1, 1), publics=[grant(2)]), True)
        self.assertIs(self.fitness(store, 3, capability=(2, 1, 1)), True)

    def test_everything_that_is_cut_away_was_heard(self):
        store = cut_store()
        for heard, expected in [((1, 1, 0), True), ((0, 1, 0), False), ((1, 0, 0), False), ((0, 0, 0), False)]:
            fit = self.fitness(store, 2, heard=heard, capability=(1, 1, 0))
            self.assertIs(fit, expected, heard)
        self.assertIs(self.fitness(store, 0, heard=(1, 0, 0)), False)
        self.assertIs(self.fitness(store, 0), True)
        self.assertIs(self.fitness(store, 1, heard=(0, 1, 0), capability=KEPT), False)

    def test_the_capability_is_there(self):
        store = tree()
        for spot in [(0, 1, 0), (0, 1, 2), (0, 2, 0), (9, 9, 9), (0, 1, -1), (1, 2, 0)]:
            self.assertIs(self.fitness(store, 1, capability=spot), False, spot)

    def test_the_author_is_the_holder(self):
        store = tree()
        for member in range(4):
            self.assertIs(self.fitness(store, member), member == 0)
            self.assertIs(self.fitness(store, member, capability=(0, 1, 1)), member == 1)
            self.assertIs(self.fitness(store, member, capability=(1, 1, 0)), member == 2)
            self.assertIs(self.fitness(store, member, capability=(1, 1, 1)), member == 3)

    def test_the_grant_was_heard_of(self):
        store = Store(2)
        make(store, 0)
        make(store, 0, publics=[grant(1)])
        for many, expected in [(0, False), (1, False), (2, True)]:
            self.assertIs(self.fitness(store, 1, heard=(many, 0), capability=(0, 2, 0)), expected, many)

    def test_nobody_uses_what_the_change_itself_grants(self):
        store = Store(2)
        self.assertIs(self.fitness(store, 0, capability=(0, 1, 0), publics=[grant(0)]), False)
        make(store, 0, publics=[grant(1)])
        self.assertIs(self.fitness(store, 1, capability=(1, 1, 0), publics=[grant(1)]), False)

    def test_the_founder_may_hold_other_capabilities(self):
        store = Store(1)
        make(store, 0, publics=[grant(0, (BOTH,) * 4)])
        self.assertIs(self.fitness(store, 0, capability=(0, 1, 0)), True)
        self.assertIs(self.fitness(store, 0, capability=(0, 1, 0), publics=[SEAL]), False)
        self.assertIs(self.fitness(store, 0, capability=(0, 1, 0), publics=[grant(0, (READ,) * 4)]), False)

    def test_kept_capabilities(self):
        store = cut_store()
        self.assertIs(self.fitness(store, 1, capability=KEPT), True)
        self.assertIs(self.fitness(store, 2, capability=(1, 1, 0)), True)
        self.assertIs(self.fitness(store, 2, capability=KEPT), False)
        self.assertIs(self.fitness(store, 2), False)

    def test_seals_are_the_founders(self):
        store = tree()
        self.assertIs(self.fitness(store, 0, publics=[SEAL]), True)
        self.assertIs(self.fitness(store, 0, publics=[grant(1), SEAL, SEAL]), True)
        self.assertIs(self.fitness(store, 1, capability=(0, 1, 1), publics=[SEAL]), False)
        self.assertIs(self.fitness(store, 1, capability=(0, 1, 1), publics=[grant(2), SEAL]), False)
        self.assertIs(self.fitness(cut_store(), 1, capability=KEPT, publics=[SEAL]), False)

    def test_a_grant_gives_what_the_capability_has_and_may_give(self):
        combinations = [(read, write, give) for read in (False, True) for write in (False, True)
                        for give in (False, True)]
        for space in range(4):
            for had in combinations:
                rights = [ALL] * 4
                rights[space] = had
                store = Store(3)
                make(store, 0, publics=[grant(1, tuple(rights))])
                for given in combinations:
                    asked = [NONE] * 4
                    asked[space] = given
                    expected = all(not asks or (has and had[2]) for has, asks in zip(had, given))
                    fit = self.fitness(store, 1, capability=(0, 1, 0), publics=[grant(2, tuple(asked))])
                    self.assertIs(fit, expected, (space, had, given))

    def test_each_space_counts_by_itself(self):
        store = Store(3)
        make(store, 0, publics=[grant(1, (ALL, BOTH, READ, NONE))])
        for given, expected in [((ALL, NONE, NONE, NONE), True), ((BOTH, NONE, NONE, NONE), True),
                                ((NONE, READ, NONE, NONE), False), ((NONE, NONE, READ, NONE), False),
                                ((ALL, NONE, NONE, READ), False), (NOTHING, True), (EVERYTHING, False)]:
            fit = self.fitness(store, 1, capability=(0, 1, 0), publics=[grant(2, given)])
            self.assertIs(fit, expected, given)

    def test_every_grant_counts(self):
        store = group(3, (BOTH, ALL, NONE, NONE))
        good, bad = grant(2, (NONE, ALL, NONE, NONE)), grant(2, (READ, NONE, NONE, NONE))
        for publics, expected in [([good], True), ([good, good], True), ([good, bad], False), ([bad, good], False),
                                  ([good, bad, good], False)]:
            self.assertIs(self.fitness(store, 1, capability=(0, 1, 0), publics=publics), expected)

    def test_kept_rights_bound_grants(self):
        store = cut_store()
        self.assertIs(self.fitness(store, 2, capability=(1, 1, 0), publics=[grant(1, (ALL, NONE, NONE, NONE))]), True)
        self.assertIs(self.fitness(store, 2, capability=(1, 1, 0), publics=[grant(1, (NONE, READ, NONE, NONE))]), False)


class Revocations(unittest.TestCase):
    def revoked(self, store, *given, **more):
        change = make(store, *given, **more)
        return revoked_by(store, change)

    def test_in_the_order_of_the_public_acts_each_once(self):
        store = tree()
        spots = [(2, 1, 1), (0, 1, 1), (1, 1, 1), (2, 1, 1), (0, 1, 1), (1, 1, 0)]
        found = self.revoked(store, 0, publics=[revoke(spot) for spot in spots])
        self.assertEqual(found, [(2, 1, 1), (0, 1, 1), (1, 1, 1), (1, 1, 0)])

    def test_the_top_and_the_own_capability(self):
        store = tree()
        self.assertEqual(self.revoked(store, 0, publics=[revoke(None)]), [])
        self.assertEqual(self.revoked(store, 1, capability=(0, 1, 1), publics=[revoke(None), revoke((0, 1, 1))]), [])

    def test_what_is_not_below(self):
        store = tree()
        found = self.revoked(store, 2, capability=(1, 1, 0), publics=[revoke((0, 1, 1)), revoke((1, 1, 1))])
        self.assertEqual(found, [])
        found = self.revoked(store, 2, capability=(1, 1, 0), publics=[revoke((1, 1, 1)), revoke((2, 1, 1))])
        self.assertEqual(found, [(2, 1, 1)])

    def test_what_is_not_there(self):
        store = tree()
        spots = [(0, 1, 0), (0, 1, 2), (0, 9, 0), (7, 1, 0), (2, 1, 0)]
        self.assertEqual(self.revoked(store, 0, publics=[revoke(spot) for spot in spots]), [])

    def test_what_was_not_heard_of(self):
        store = tree()
        spots = [revoke((0, 1, 1)), revoke((1, 1, 0)), revoke((2, 1, 1))]
        self.assertEqual(self.revoked(store, 0, heard=(1, 0, 0, 0), publics=spots), [(0, 1, 1)])
        self.assertEqual(self.revoked(store, 0, heard=(1, 1, 0, 0), publics=spots), [(0, 1, 1), (1, 1, 0)])

    def test_what_the_change_itself_grants(self):
        self.assertEqual(self.revoked(Store(2), 0, publics=[grant(1), revoke((0, 1, 0))]), [])

    def test_kept_capabilities(self):
        store = cut_store()
        self.assertEqual(self.revoked(store, 0, publics=[revoke((1, 1, 0)), revoke(KEPT)]), [(1, 1, 0), KEPT])
        self.assertEqual(self.revoked(store, 1, capability=KEPT, publics=[revoke(KEPT), revoke((1, 1, 0))]),
                         [(1, 1, 0)])
        # It is kept, so it counts as heard of whatever the change had heard.
        found = self.revoked(store, 0, heard=(1, 0, 0), publics=[revoke((1, 1, 0)), revoke(KEPT)])
        self.assertEqual(found, [(1, 1, 0), KEPT])

    def test_it_need_not_be_allowed_or_fit(self):
        store = tree()
        found = self.revoked(store, 3, capability=(0, 1, 1), publics=[revoke((2, 1, 1))])
        self.assertEqual(found, [(2, 1, 1)])

    def test_a_capability_that_is_not_there_revokes_nothing(self):
        store = tree()
        self.assertEqual(self.revoked(store, 1, capability=(0, 9, 0), publics=[revoke((1, 1, 0))]), [])

    def test_other_public_acts_revoke_nothing(self):
        store = tree()
        self.assertEqual(self.revoked(store, 0, publics=[grant(1), SEAL]), [])
        self.assertEqual(self.revoked(store, 0), [])

    def test_the_list_is_new(self):
        store = tree()
        change = make(store, 0, publics=[revoke((0, 1, 1))])
        revoked_by(store, change).clear()
        self.assertEqual(revoked_by(store, change), [(0, 1, 1)])


class Held(unittest.TestCase):
    def held(self, store, *spots):
        allowed = verdicts(store)
        return [is_held(store, allowed, spot) for spot in spots]

    def test_ordinary_ones(self):
        store = group(3)
        make(store, 1, capability=own(1), publics=[grant(2)])
        self.assertEqual(self.held(store, None, own(1), own(2), (1, 1, 0)), [True] * 4)

    def test_what_is_not_there(self):
        store = group(3)
        self.assertEqual(self.held(store, (0, 1, 2), (0, 2, 0), (5, 1, 0), (0, 1, -1)), [False] * 4)

    def test_the_grant_was_not_allowed(self):
        store = group(3)
        make(store, 1, capability=own(2), publics=[grant(1)])
        make(store, 2, capability=(1, 1, 0), publics=[grant(2)])
        self.assertEqual(self.held(store, (1, 1, 0), (2, 1, 0), own(2)), [False, False, True])

    def test_revoked_ones_and_those_below(self):
        store = group(4)
        make(store, 1, capability=own(1), publics=[grant(2)])
        make(store, 2, capability=(1, 1, 0), publics=[grant(3)])
        spots = [None, own(1), (1, 1, 0), (2, 1, 0), own(2), own(3)]
        self.assertEqual(self.held(store, *spots), [True] * 6)
        low = store.copy()
        make(low, 0, publics=[revoke((1, 1, 0))])
        self.assertEqual(self.held(low, *spots), [True, True, False, False, True, True])
        high = store.copy()
        make(high, 0, publics=[revoke(own(1))])
        self.assertEqual(self.held(high, *spots), [True, False, False, False, True, True])

    def test_revocations_without_effect(self):
        store = group(3)
        say(store, 1, publics=[revoke(own(2)), revoke(own(1)), revoke(None)])
        self.assertEqual(self.held(store, None, own(1), own(2)), [True] * 3)

    def test_revocations_of_changes_that_are_not_allowed(self):
        store = group(3)
        make(store, 1, capability=own(2), publics=[grant(1)])
        make(store, 2, publics=[revoke(own(1))])
        self.assertEqual(self.held(store, own(1)), [True])

    def test_kept_capabilities(self):
        store = cut_store()
        self.assertEqual(self.held(store, KEPT, (1, 1, 0)), [True, True])
        make(store, 1, capability=KEPT, publics=[revoke((1, 1, 0))])
        self.assertEqual(self.held(store, KEPT, (1, 1, 0)), [True, False])
        make(store, 0, publics=[revoke(KEPT)])
        self.assertEqual(self.held(store, None, KEPT, (1, 1, 0)), [True, False, False])

    def test_a_revoked_kept_capability_takes_those_below_along(self):
        store = cut_store()
        make(store, 2, capability=(1, 1, 0), publics=[grant(1, NOTHING)])
        make(store, 0, publics=[revoke(KEPT)])
        self.assertEqual(self.held(store, KEPT, (1, 1, 0), (2, 1, 0)), [False] * 3)


class Reading(unittest.TestCase):
    def readers(self, store, space=0):
        allowed = verdicts(store)
        return [member for member in range(6) if may_read(store, allowed, member, space)]

    def test_the_founder_may_read_everything(self):
        for store in [Store(1), group(3, NOTHING), cut_store()]:
            allowed = verdicts(store)
            for space in range(4):
                self.assertIs(may_read(store, allowed, 0, space), True)

    def test_each_right_and_each_space(self):
        rights = (READ, WRITE, BOTH, (False, False, True))
        store = group(2, rights)
        allowed = verdicts(store)
        self.assertEqual([may_read(store, allowed, 1, space) for space in range(4)], [True, False, True, False])

    def test_only_the_holder_may(self):
        store = Store(4)
        make(store, 0, publics=[grant(2)])
        self.assertEqual(self.readers(store), [0, 2])

    def test_one_of_several_capabilities_is_enough(self):
        store = Store(2)
        make(store, 0, publics=[grant(1, (READ, NONE, NONE, NONE)), grant(1, (NONE, READ, NONE, NONE)), SEAL])
        self.assertEqual([self.readers(store, space) for space in range(4)], [[0, 1], [0, 1], [0], [0]])
        make(store, 0, publics=[revoke((0, 1, 0))])
        self.assertEqual([self.readers(store, space) for space in range(4)], [[0], [0, 1], [0], [0]])

    def test_revoked_capabilities_and_those_below(self):
        store = group(3)
        make(store, 1, capability=own(1), publics=[grant(3)])
        self.assertEqual(self.readers(store), [0, 1, 2, 3])
        make(store, 0, publics=[revoke(own(1))])
        self.assertEqual(self.readers(store), [0, 2])

    def test_grants_that_are_not_allowed(self):
        store = group(2)
        make(store, 1, publics=[grant(3)])
        self.assertEqual(self.readers(store), [0, 1])

    def test_kept_capabilities(self):
        store = cut_store()
        self.assertEqual([self.readers(store, space) for space in range(4)], [[0, 1, 2], [0, 1, 2], [0, 1, 2], [0, 1]])
        make(store, 0, publics=[revoke((1, 1, 0))])
        self.assertEqual(self.readers(store), [0, 1])


class Counting(unittest.TestCase):
    def counting(self, store, change):
        allowed = verdicts(store)
        return [counts_in(store, allowed, change, space) for space in range(4)]

    def test_the_founder_may_write_everything(self):
        store = Store(1)
        self.assertEqual(self.counting(store, make(store, 0)), [True] * 4)

    def test_each_right_and_each_space(self):
        store = group(2, (READ, WRITE, BOTH, (True, False, True)))
        self.assertEqual(self.counting(store, say(store, 1)), [False, True, True, False])

    def test_changes_that_are_not_allowed(self):
        store = group(3)
        change = make(store, 1, capability=own(2))
        self.assertEqual(self.counting(store, change), [False] * 4)

    def test_kept_capabilities(self):
        store = cut_store()
        self.assertEqual(self.counting(store, make(store, 2, capability=(1, 1, 0))), [True, True, False, False])

    def test_changes_that_are_not_in_the_store(self):
        store = group(2)
        change = say(store, 1)
        store.changes[1].pop()
        self.assertEqual(self.counting(store, change), [False] * 4)

    def test_a_capability_that_was_revoked_later(self):
        store = group(2)
        change = say(store, 1)
        make(store, 0, publics=[revoke(own(1))])
        self.assertEqual(self.counting(store, change), [True] * 4)
        late = say(store, 1)
        self.assertEqual(self.counting(store, late), [False] * 4)


class Seals(unittest.TestCase):
    def test_allowed_seals_in_order(self):
        store = group(2)
        self.assertEqual(allowed_seals(store, verdicts(store)), [])
        first = make(store, 0, publics=[grant(1), SEAL, SEAL])
        say(store, 1, publics=[SEAL])
        second = make(store, 0, publics=[SEAL])
        make(store, 0, publics=[grant(1)])
        allowed = verdicts(store)
        self.assertEqual(allowed_seals(store, allowed), [first, second])
        allowed_seals(store, allowed).clear()
        self.assertEqual(allowed_seals(store, allowed), [first, second])


class NothingChanges(unittest.TestCase):
    def test_no_call_changes_the_store_or_the_verdicts(self):
        for store in [tree(), cut_store(), group(3)]:
            make(store, 0, publics=[revoke((0, 1, 1)), SEAL])
            before = store.data()
            allowed = verdicts(store)
            told = {name: allowed[name] for name in allowed}
            for change in store.all_changes():
                is_fit(store, change)
                revoked_by(store, change)
                counts_in(store, allowed, change, 0)
            for spot in [None, (0, 1, 0), (1, 1, 0), (0, 9, 9)]:
                capability_info(store, spot)
                is_above(store, None, spot)
                is_held(store, allowed, spot)
            may_read(store, allowed, 1, 0)
            allowed_seals(store, allowed)
            self.assertEqual(store.data(), before)
            self.assertEqual(allowed, told)


if __name__ == "__main__":
    unittest.main()
