"""Points 18 to 20: which changes are allowed."""

import itertools
import random
import unittest

from builders import EVERYTHING, NOTHING, SEAL, allowed_names, grant, group, make, own, revoke, say
from kithbase.changes import in_past
from kithbase.rights import is_above, is_fit, revoked_by, verdicts
from kithbase.store import Store, is_whole


class Scenes(unittest.TestCase):
    def test_an_empty_store(self):
        self.assertEqual(verdicts(Store(3)), {})

    def test_the_founder_alone(self):
        store = Store(1)
        for k in range(3):
            make(store, 0)
        self.assertEqual(verdicts(store), {(0, 1): True, (0, 2): True, (0, 3): True})

    def test_changes_that_are_not_fit(self):
        store = Store(2)
        make(store, 1)
        make(store, 1, capability=(0, 1, 0))
        make(store, 0, publics=[grant(1)])
        make(store, 1, capability=(0, 1, 0), publics=[SEAL])
        self.assertEqual(allowed_names(store), [(0, 1)])

    def test_a_grant_that_is_not_allowed_gives_nothing_several_steps_deep(self):
        store = Store(5)
        make(store, 0, publics=[grant(1, NOTHING)])
        # Member 1 passes on what it may not, and all that follows from that falls with it.
        make(store, 1, capability=(0, 1, 0), publics=[grant(2)])
        make(store, 2, capability=(1, 1, 0), publics=[grant(3)])
        make(store, 3, capability=(2, 1, 0), publics=[grant(4)])
        make(store, 4, capability=(3, 1, 0))
        make(store, 1, capability=(0, 1, 0))
        self.assertEqual(allowed_names(store), [(0, 1), (1, 2)])

    def test_long_chains(self):
        store = Store(1)
        make(store, 0, publics=[grant(0)])
        for number in range(1, 120):
            make(store, 0, capability=(0, number, 0), publics=[grant(0)])
        self.assertEqual(set(verdicts(store).values()), {True})
        for number in range(120, 200):
            make(store, 0, capability=(0, number, 0), publics=[grant(0)])
        # The change that granted this capability had not heard of its own parent's grant.
        make(store, 0, capability=(0, 201, 0), publics=[grant(0)])
        make(store, 0, capability=(0, 201, 0))
        allowed = verdicts(store)
        self.assertEqual([name for name in allowed if not allowed[name]], [(0, 201), (0, 202)])

    def test_many_grants_in_one_change(self):
        store = Store(6)
        make(store, 0, publics=[grant(1 + k % 5) for k in range(40)])
        for k in [0, 9, 10, 29, 30, 31, 32, 33, 39]:
            make(store, 1 + k % 5, capability=(0, 1, k))
        make(store, 1, capability=(0, 1, 40))
        make(store, 1, capability=(0, 1, 31))
        allowed = verdicts(store)
        self.assertEqual(sorted(name for name in allowed if not allowed[name]), [(1, 4), (1, 5)])
        make(store, 0, publics=[revoke((0, 1, 31))], heard=(1, 0, 0, 0, 0, 0))
        wrong = [name for name in verdicts(store) if not verdicts(store)[name]]
        self.assertEqual(sorted(wrong), [(1, 4), (1, 5), (2, 1)])

    def test_an_equal_dict_when_asked_again(self):
        store = group(3)
        say(store, 1)
        make(store, 2)
        first = verdicts(store)
        told = {name: first[name] for name in first}
        first.clear()
        self.assertEqual(verdicts(store), told)
        verdicts(store)[(0, 1)] = False
        self.assertEqual(verdicts(store), told)
        self.assertEqual({type(verdict) for verdict in told.values()}, {bool})


class Sealing(unittest.TestCase):
    def test_only_what_is_related_to_a_seal_is_allowed(self):
        store = group(3)
        say(store, 1)
        say(store, 2)
        make(store, 0, heard=(1, 1, 0), publics=[SEAL])
        say(store, 2, heard=(1, 0, 1))
        say(store, 1)
        self.assertEqual(allowed_names(store), [(0, 1), (0, 2), (1, 1), (1, 2)])

    def test_hearing_of_the_seal_later_makes_only_later_changes_allowed(self):
        store = group(2)
        make(store, 0, publics=[SEAL])
        say(store, 1, heard=(1, 0))
        say(store, 1)
        self.assertEqual(allowed_names(store), [(0, 1), (0, 2), (1, 2)])

    def test_several_seals(self):
        store = group(2)
        make(store, 0, publics=[SEAL])
        # It comes after the first seal, but the second seal is unrelated to it.
        say(store, 1)
        make(store, 0, heard=(2, 0), publics=[SEAL])
        say(store, 1)
        self.assertEqual(allowed_names(store), [(0, 1), (0, 2), (0, 3), (1, 2)])

    def test_seals_that_are_not_allowed_do_nothing(self):
        store = group(3)
        say(store, 1, publics=[SEAL])
        make(store, 2, publics=[SEAL])
        say(store, 2, heard=(1, 0, 1))
        make(store, 0, heard=(1, 0, 0))
        self.assertEqual(allowed_names(store), [(0, 1), (0, 2), (2, 2)])

    def test_a_grant_beside_a_seal(self):
        store = group(3)
        say(store, 1, publics=[grant(2)])
        make(store, 0, heard=(1, 0, 0), publics=[SEAL])
        # The capability was granted beside the seal, so nothing that is made with it is allowed.
        make(store, 2, capability=(1, 1, 0))
        say(store, 2)
        self.assertEqual(allowed_names(store), [(0, 1), (0, 2), (2, 2)])


class Revoking(unittest.TestCase):
    def test_before_beside_and_after_a_revocation(self):
        store = group(3)
        say(store, 1)
        make(store, 0, publics=[revoke(own(1))])
        say(store, 1, heard=(1, 1, 0))
        say(store, 1)
        say(store, 2)
        self.assertEqual(allowed_names(store), [(0, 1), (0, 2), (1, 1), (2, 1)])

    def test_revoking_a_capability_above(self):
        store = group(4)
        say(store, 1, publics=[grant(2)])
        make(store, 2, capability=(1, 1, 0), publics=[grant(3)])
        make(store, 3, capability=(2, 1, 0))
        make(store, 0, publics=[revoke(own(1))])
        for member, capability in [(1, own(1)), (2, (1, 1, 0)), (3, (2, 1, 0)), (2, own(2))]:
            make(store, member, capability=capability)
        self.assertEqual(allowed_names(store), [(0, 1), (0, 2), (1, 1), (2, 1), (2, 3), (3, 1)])

    def test_other_capabilities_of_the_member_stay(self):
        store = Store(2)
        make(store, 0, publics=[grant(1), grant(1)])
        make(store, 0, publics=[revoke((0, 1, 0))])
        make(store, 1, capability=(0, 1, 0))
        make(store, 1, capability=(0, 1, 1))
        self.assertEqual(allowed_names(store), [(0, 1), (0, 2), (1, 2)])

    def test_revocations_without_effect(self):
        store = group(3)
        say(store, 2, publics=[revoke(own(1)), revoke(None)])
        say(store, 1, publics=[revoke(own(1))])
        say(store, 1, heard=(1, 1, 0))
        self.assertEqual(allowed_names(store), [(0, 1), (1, 1), (1, 2), (2, 1)])

    def test_who_is_revoked_in_time_revokes_nothing(self):
        store = group(3)
        say(store, 1, publics=[grant(2)])
        # The founder revokes member 1, who beside that revokes member 2.
        make(store, 0, publics=[revoke(own(1))])
        say(store, 1, heard=(1, 1, 0), publics=[revoke((1, 1, 0))])
        make(store, 2, heard=(1, 1, 0), capability=(1, 1, 0))
        self.assertEqual(allowed_names(store), [(0, 1), (0, 2), (1, 1)])
        again = group(3)
        say(again, 1, publics=[grant(2)])
        make(again, 2, capability=(1, 1, 0))
        make(again, 0, publics=[revoke(own(1))])
        say(again, 1, heard=(1, 1, 0), publics=[revoke((1, 1, 0))])
        # Only the revocation of the founder counts, and it had heard of what member 2 did.
        self.assertEqual(allowed_names(again), [(0, 1), (0, 2), (1, 1), (2, 1)])

    def test_revocations_that_decide_about_each_other_several_steps_deep(self):
        store = group(5)
        say(store, 1, publics=[grant(2)])
        make(store, 2, capability=(1, 1, 0), publics=[grant(3)])
        make(store, 3, capability=(2, 1, 0), publics=[grant(4)])
        heard = store.counts()
        make(store, 4, heard=heard, capability=(3, 1, 0))
        make(store, 3, heard=heard, capability=(2, 1, 0), publics=[revoke((3, 1, 0))])
        self.assertNotIn((4, 1), allowed_names(store))
        make(store, 2, heard=heard, capability=(1, 1, 0), publics=[revoke((2, 1, 0))])
        # The change that revoked (3, 1, 0) falls, but so does everything beside this one below (2, 1, 0).
        self.assertEqual([name in allowed_names(store) for name in [(2, 2), (3, 2), (4, 1)]], [True, False, False])
        say(store, 1, heard=heard, publics=[revoke((1, 1, 0))])
        self.assertEqual([name in allowed_names(store) for name in [(1, 2), (2, 2), (3, 2), (4, 1)]],
                         [True, False, False, False])

    def test_a_revocation_that_falls_sets_free_what_it_forbade(self):
        store = group(4)
        heard = store.counts()
        say(store, 1, publics=[grant(3), grant(3)])
        heard = store.counts()
        make(store, 3, heard=heard, capability=(1, 1, 0))
        say(store, 1, heard=heard, publics=[revoke((1, 1, 0))])
        self.assertEqual(allowed_names(store), [(0, 1), (1, 1), (1, 2)])
        # The founder seals what member 3 did, and not what member 1 did beside it.
        make(store, 0, heard=[1, 1, 0, 1], publics=[SEAL])
        self.assertEqual(allowed_names(store), [(0, 1), (0, 2), (1, 1), (3, 1)])

    def test_revocations_by_what_is_not_allowed(self):
        store = group(3)
        say(store, 1)
        make(store, 2, heard=(1, 0, 0), publics=[revoke(own(1))])
        self.assertEqual(allowed_names(store), [(0, 1), (1, 1)])


class Cut(unittest.TestCase):
    def store(self):
        store = Store(3)
        store.cut = [2, 1, 0]
        store.capabilities = [((0, 1, 0), None, 1, EVERYTHING), ((1, 1, 0), (0, 1, 0), 2, EVERYTHING)]
        return store

    def test_kept_capabilities_need_no_change(self):
        store = self.store()
        make(store, 1, capability=(0, 1, 0))
        make(store, 2, capability=(1, 1, 0), publics=[grant(1)])
        make(store, 1, capability=(2, 1, 0))
        make(store, 2, capability=(0, 1, 0))
        self.assertEqual(allowed_names(store), [(1, 2), (1, 3), (2, 1)])

    def test_who_had_not_heard_all_that_is_cut_away(self):
        store = self.store()
        make(store, 1, heard=(1, 0, 0), capability=(0, 1, 0))
        make(store, 2, heard=(2, 0, 0), capability=(1, 1, 0))
        make(store, 2, capability=(1, 1, 0))
        self.assertEqual(allowed_names(store), [(2, 2)])

    def test_kept_capabilities_are_revoked_too(self):
        store = self.store()
        make(store, 2, capability=(1, 1, 0))
        make(store, 0, heard=(2, 1, 0), publics=[revoke((0, 1, 0))])
        self.assertEqual(allowed_names(store), [(0, 3)])
        store = self.store()
        make(store, 2, capability=(1, 1, 0))
        make(store, 0, publics=[revoke((0, 1, 0))])
        self.assertEqual(allowed_names(store), [(0, 3), (2, 1)])

    def test_kept_capabilities_revoke(self):
        store = self.store()
        make(store, 2, capability=(1, 1, 0))
        make(store, 1, heard=(2, 1, 0), capability=(0, 1, 0), publics=[revoke((1, 1, 0))])
        self.assertEqual(allowed_names(store), [(1, 2)])


def solutions(store):
    """Returns all dicts that fulfil point 18, each tried out."""
    changes = store.all_changes()
    fit = {change.name(): is_fit(store, change) for change in changes}
    revoked = {change.name(): revoked_by(store, change) for change in changes}
    kept = [entry[0] for entry in store.capabilities]
    found = []
    for bits in itertools.product([False, True], repeat=len(changes)):
        allowed = {change.name(): bit for change, bit in zip(changes, bits)}
        if all(allowed[change.name()] == is_right(store, allowed, fit, revoked, kept, change) for change in changes):
            found.append(allowed)
    return found


def is_right(store, allowed, fit, revoked, kept, change):
    """Tells whether the conditions of point 18 hold for the change, where `allowed` are the verdicts."""
    name, capability = change.name(), change.capability
    if not fit[name]:
        return False
    if capability is not None and capability not in kept and not allowed[capability[:2]]:
        return False
    for other in store.all_changes():
        if not allowed[other.name()]:
            continue
        before, after = in_past(name, other), in_past(other.name(), change)
        if SEAL in other.publics and not before and not after and other.name() != name:
            return False
        if not before and any(is_above(store, spot, capability) for spot in revoked[other.name()]):
            return False
    return True


def random_store(source):
    """Returns a whole store in which members grant, revoke and seal, as far as each knows the others."""
    store = Store(source.randrange(1, 4))
    members = range(store.members)
    seen = [[0] * store.members for member in members]
    spots = [None]
    holders = {None: 0}
    for step in range(12):
        member, other = source.choice(members), source.choice(members)
        if source.random() < 0.5:
            seen[member] = [max(pair) for pair in zip(seen[member], seen[other])]
        mine = [spot for spot in spots if holders[spot] == member] or spots
        publics = []
        for k in range(source.choice([0, 0, 1, 1, 2])):
            rights = source.choice([EVERYTHING, EVERYTHING, EVERYTHING, NOTHING])
            publics.append(source.choice([grant(source.choice(members), rights), revoke(source.choice(spots)), SEAL]))
        capability = source.choice(mine if source.random() < 0.9 else spots)
        if SEAL in publics and source.random() < 0.9:
            publics.remove(SEAL)
        change = make(store, member, heard=seen[member], capability=capability, publics=publics)
        seen[member][member] = change.number
        for place, act in enumerate(publics):
            if act[0] == "grant":
                spots.append((member, change.number, place))
                holders[spots[-1]] = act[1]
        if step > 4 and source.random() < 0.3:
            break
    return store


class OneSolution(unittest.TestCase):
    def test_the_verdicts_are_the_one_solution(self):
        told = []
        for seed in range(60):
            store = random_store(random.Random(seed))
            self.assertTrue(is_whole(store))
            found = solutions(store)
            self.assertEqual(found, [verdicts(store)], seed)
            told.extend(found[0].values())
        self.assertGreater(told.count(True), 50)
        self.assertGreater(told.count(False), 50)


if __name__ == "__main__":
    unittest.main()
