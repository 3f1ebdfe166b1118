"""Points 97 to 100: packets."""

import random
import unittest

from builders import ALL, BOTH, EVERYTHING, NONE, READ, SEAL, grant, group, make, own, revoke, say
from kithbase.changes import Change
from kithbase.codes import write_capability, write_change, write_kept, write_number
from kithbase.cutting import cut_at, last_seal
from kithbase.errors import DamagedPacket, UnfitPacket
from kithbase.packets import asking, giving, taking
from kithbase.reading import Reader
from kithbase.rights import may_read, verdicts
from kithbase.spaces import joined, shown_to
from kithbase.store import SPACES, Kept, Store, is_whole
from worlds import random_world

T, ROW = (0, 2, 0), (0, 2, 1)
NOTHING_UNKNOWN = [1, 1, 1, 1, 0, 0, 0, 0]


def numbers(values):
    return write_number(len(values)) + [byte for value in values for byte in write_number(value)]


def ask_packet(member=0, cut=(0, 0, 0), counts=(0, 0, 0), known=(1, 1, 1, 1), names=((), (), (), ())):
    data = [1] + write_number(member) + numbers(cut) + numbers(counts) + list(known)
    for listed in names:
        data += write_number(len(listed)) + [byte for name in listed for part in name for byte in write_number(part)]
    return data


def give_packet(cut=(0, 0, 0), capabilities=(), kept=(None,) * 4, changes=()):
    data = [2] + numbers(cut) + write_number(len(capabilities))
    for entry in capabilities:
        data += write_capability(entry)
    for one in kept:
        data += [0] if one is None else [1] + write_kept(one)
    return data + write_number(len(changes)) + [byte for change in changes for byte in write_change(change)]


def given(packet):
    """Returns the cut, the kept capabilities, the kept things and the changes of a packet that gives."""
    reader = Reader(packet)
    assert reader.read_number() == 2
    cut = [reader.read_number() for k in range(reader.read_number())]
    capabilities = [reader.read_capability() for k in range(reader.read_number())]
    kept = [reader.read_kept() if reader.read_number() else None for space in range(SPACES)]
    changes = [reader.read_change() for k in range(reader.read_number())]
    reader.end()
    return cut, capabilities, kept, changes


def told(packet):
    """Returns the name of each change of a packet that gives, with which of its parts it has."""
    return [(change.name(), [part is not None for part in change.parts]) for change in given(packet)[3]]


def which_kept(packet):
    return [kept is not None for kept in given(packet)[2]]


def office(rights=EVERYTHING):
    store = group(3, rights)
    say(store, 0, [("table", "t"), ("row", T)])
    say(store, 1, [("row", T)])
    return store


def with_parts(store, name, parts):
    """Puts other parts into the change with this name."""
    author, number = name
    place = number - store.cut[author] - 1
    store.changes[author][place] = store.changes[author][place].with_parts(parts)


def cut_office():
    store = office()
    say(store, 0, publics=[SEAL])
    return cut_at(store, last_seal(store))


class Asking(unittest.TestCase):
    def test_an_empty_store(self):
        self.assertEqual(asking(Store(3), 1), [1, 1, 3, 0, 0, 0, 3, 0, 0, 0, 1, 1, 1, 1, 0, 0, 0, 0])
        self.assertEqual(asking(Store(1), 0), [1, 0, 1, 0, 1, 0] + NOTHING_UNKNOWN)

    def test_cut_and_counts(self):
        store = cut_office()
        store.cut[0] += 300
        say(store, 1)
        self.assertEqual(asking(store, 2), ask_packet(2, store.cut, store.counts()))
        self.assertNotEqual(store.cut, store.counts())

    def test_what_is_not_known(self):
        store = office()
        store.kept[1] = None
        with_parts(store, (1, 1), [None, (), None, ()])
        with_parts(store, (0, 2), [None, (), (), None])
        with_parts(store, (0, 1), [None, (), (), ()])
        self.assertEqual(asking(store, 1), ask_packet(1, (0, 0, 0), (2, 1, 0), (1, 0, 1, 1),
                                                      [[(0, 1), (0, 2), (1, 1)], [], [(1, 1)], [(0, 2)]]))

    def test_the_order_is_that_of_author_and_number(self):
        store = Store(2)
        make(store, 1, parts=[None] * 4)
        make(store, 0, parts=[None] * 4, heard=[0, 1])
        make(store, 1, parts=[None] * 4)
        names = [(0, 1), (1, 1), (1, 2)]
        self.assertEqual(asking(store, 0), ask_packet(0, (0, 0), (1, 2), (1, 1, 1, 1), [names] * 4))

    def test_nothing_changes(self):
        store = office()
        before = store.data()
        asking(store, 1).clear()
        self.assertEqual(store.data(), before)


class Giving(unittest.TestCase):
    def test_everything(self):
        store = office()
        packet = giving(store, ask_packet(2))
        self.assertEqual(packet, give_packet(changes=[change for line in store.changes for change in line]))
        self.assertEqual(told(packet), [(name, [True] * 4) for name in [(0, 1), (0, 2), (1, 1)]])

    def test_only_what_the_other_one_does_not_have(self):
        store = office()
        self.assertEqual(told(giving(store, ask_packet(1, counts=(1, 0, 0)))),
                         [((0, 2), [True] * 4), ((1, 1), [True] * 4)])
        self.assertEqual(told(giving(store, ask_packet(1, counts=(9, 1, 9)))), [])

    def test_the_cut_and_what_is_kept_of_capabilities(self):
        store = cut_office()
        say(store, 2)
        cut, capabilities, kept, changes = given(giving(store, ask_packet(1)))
        self.assertEqual((cut, capabilities), ([3, 1, 0], store.capabilities))
        self.assertEqual([one.data() for one in kept], [one.data() for one in store.kept])
        self.assertEqual([change.name() for change in changes], [(2, 1)])

    def test_what_is_kept_of_spaces(self):
        store = cut_office()
        for cut, known, kept in [
                ((0, 0, 0), (1, 1, 1, 1), [True] * 4), ((2, 1, 0), (1, 0, 1, 0), [True] * 4),
                ((3, 1, 0), (1, 1, 1, 1), [False] * 4), ((3, 1, 0), (1, 0, 1, 0), [False, True, False, True]),
                ((4, 0, 0), (1, 1, 1, 1), [False] * 4), ((4, 0, 0), (0, 1, 1, 1), [True, False, False, False]),
                ((3, 0, 0), (1, 1, 1, 1), [False] * 4), ((2, 9, 9), (1, 1, 1, 1), [True] * 4)]:
            self.assertEqual(which_kept(giving(store, ask_packet(1, cut, known=known))), kept)

    def test_what_is_kept_and_not_known(self):
        store = cut_office()
        store.kept[2] = None
        self.assertEqual(which_kept(giving(store, ask_packet(1))), [True, True, False, True])
        self.assertEqual(which_kept(giving(store, ask_packet(1, (3, 1, 0), known=(0, 0, 0, 0)))),
                         [True, True, False, True])

    def test_spaces_that_may_not_be_read(self):
        store = office((READ, NONE, BOTH, (False, True, True)))
        seen = [True, False, True, False]
        self.assertEqual(told(giving(store, ask_packet(1))), [(name, seen) for name in [(0, 1), (0, 2), (1, 1)]])
        self.assertEqual(told(giving(store, ask_packet(0))), [(name, [True] * 4) for name in [(0, 1), (0, 2), (1, 1)]])
        self.assertEqual(which_kept(giving(store, ask_packet(1, known=(0, 0, 0, 0)))), seen)
        say(store, 0, publics=[SEAL])
        after = cut_at(store, last_seal(store))
        self.assertEqual(which_kept(giving(after, ask_packet(1))), seen)
        self.assertEqual(which_kept(giving(after, ask_packet(0))), [True] * 4)

    def test_it_is_the_store_of_the_one_that_answers_which_tells_who_may_read(self):
        store = office()
        before = store.copy()
        say(store, 0, publics=[revoke(own(1))])
        self.assertEqual(told(giving(store, ask_packet(1, counts=(2, 1, 0)))), [((0, 3), [False] * 4)])
        self.assertEqual(told(giving(before, ask_packet(1, counts=(1, 1, 0)))), [((0, 2), [True] * 4)])
        self.assertEqual(told(giving(Store(3), ask_packet(1))), [])

    def test_parts_that_are_not_known_to_the_one_that_answers(self):
        store = office()
        with_parts(store, (0, 2), [None, (), None, ()])
        self.assertEqual(told(giving(store, ask_packet(1)))[1], ((0, 2), [False, True, False, True]))

    def test_parts_that_were_told_as_not_known(self):
        store = office((ALL, NONE, ALL, ALL))
        with_parts(store, (0, 2), [store.changes[0][1].parts[0], (), None, ()])
        names = [[(0, 2), (1, 1)], [(0, 2)], [(0, 1), (0, 2)], []]
        counts = (2, 1, 0)
        # Space 1 may not be read, and the part of (0, 2) for space 2 is not known.
        packet = giving(store, ask_packet(1, counts=counts, names=names))
        self.assertEqual(told(packet), [((0, 1), [False, False, True, False]), ((0, 2), [True, False, False, False]),
                                        ((1, 1), [True, False, False, False])])
        self.assertEqual(given(packet)[3][1].parts[0], (("table", "t"), ("row", T)))
        packet = giving(store, ask_packet(0, counts=counts, names=names))
        self.assertEqual(told(packet)[1], ((0, 2), [True, True, False, False]))

    def test_a_change_is_not_given_without_a_part(self):
        store = office((ALL, NONE, ALL, ALL))
        with_parts(store, (0, 2), [None, (), (), ()])
        names = [[(0, 2)], [(0, 1), (1, 1)], [], []]
        self.assertEqual(told(giving(store, ask_packet(1, counts=(2, 1, 0), names=names))), [])

    def test_an_empty_part_is_a_part(self):
        store = office()
        packet = giving(store, ask_packet(1, counts=(2, 1, 0), names=[[], [], [], [(0, 1)]]))
        self.assertEqual(told(packet), [((0, 1), [False, False, False, True])])
        self.assertEqual(given(packet)[3][0].parts[3], ())

    def test_names_in_any_order_and_twice_and_of_changes_that_are_not_there(self):
        store = office()
        names = [[(1, 1), (0, 1), (1, 1), (7, 7), (0, 0), (0, 99), (2, 1)], [], [], []]
        packet = giving(store, ask_packet(1, counts=(2, 1, 0), names=names))
        self.assertEqual(told(packet), [((0, 1), [True, False, False, False]), ((1, 1), [True, False, False, False])])

    def test_names_of_changes_that_the_other_one_does_not_have(self):
        store = office()
        packet = giving(store, ask_packet(1, counts=(1, 1, 0), names=[[(0, 2)], [], [], []]))
        self.assertEqual(told(packet), [((0, 2), [True] * 4)])

    def test_names_of_changes_that_are_cut_away(self):
        store = cut_office()
        self.assertEqual(told(giving(store, ask_packet(1, counts=(3, 1, 0), names=[[(0, 2)], [], [], []]))), [])

    def test_damaged_packets(self):
        store = office()
        good = ask_packet(1)
        self.assertEqual(len(told(giving(store, good))), 3)
        for bad in [good + [0], good[:-1], [], [1], [0] + good[1:], [2] + good[1:], [3] + good[1:], give_packet(),
                    [128, 0] + good[1:], ask_packet(3), ask_packet(300), ask_packet(cut=(0, 0)),
                    ask_packet(cut=(0, 0, 0, 0)), ask_packet(counts=(0, 0)), ask_packet(counts=(0, 0, 0, 0)),
                    ask_packet(cut=(), counts=()), ask_packet(cut=(0, 0), counts=(0, 0)),
                    ask_packet(known=(1, 1, 1, 2)),
                    ask_packet(known=(1, 1, 1)), ask_packet(names=[[(0, 1, 1)], [], [], []]), asking(Store(2), 1)]:
            before = (store.data(), list(bad))
            with self.assertRaises(DamagedPacket, msg=bad):
                giving(store, bad)
            self.assertEqual((store.data(), bad), before)

    def test_nothing_changes(self):
        store, packet = cut_office(), ask_packet(1)
        before = (store.data(), list(packet))
        giving(store, packet).clear()
        self.assertEqual((store.data(), packet), before)


class Changes(unittest.TestCase):
    """Part 2 of point 99, and part 3."""

    def setUp(self):
        self.store = office()

    def take(self, *changes):
        return taking(self.store, give_packet(changes=changes))

    def assert_unfit(self, *changes):
        before = self.store.data()
        with self.assertRaises(UnfitPacket, msg=changes):
            self.take(*changes)
        self.assertEqual(self.store.data(), before)

    def change(self, author, number, heard, parts=((), None, (), None), capability=None, publics=()):
        return Change(author, number, heard, capability, publics, parts)

    def test_no_changes(self):
        after = self.take()
        self.assertEqual(after.data(), self.store.data())
        after.changes[0].clear()
        after.kept[0].acts.append(1)
        self.assertEqual(self.store.counts(), [2, 1, 0])
        self.assertEqual(self.store.kept[0].acts, [])

    def test_the_next_changes(self):
        after = self.take(self.change(0, 3, (2, 1, 0)), self.change(2, 1, (3, 1, 0)), self.change(0, 4, (3, 1, 1)))
        self.assertEqual(after.counts(), [4, 1, 1])
        self.assertEqual(after.changes[0][2].parts, ((), None, (), None))
        self.assertEqual(self.store.counts(), [2, 1, 0])

    def test_in_any_order_as_far_as_each_is_the_next_one_of_its_author(self):
        after = self.take(self.change(2, 1, (3, 1, 0)), self.change(0, 3, (2, 1, 0)))
        self.assertEqual(after.counts(), [3, 1, 1])

    def test_a_gap(self):
        self.assert_unfit(self.change(0, 4, (3, 1, 0)))
        self.assert_unfit(self.change(0, 4, (3, 1, 0)), self.change(0, 3, (2, 1, 0)))
        self.assert_unfit(self.change(2, 2, (2, 1, 1)))

    def test_the_number_zero(self):
        self.assert_unfit(self.change(0, 0, (0, 0, 0)))
        self.assert_unfit(self.change(2, 0, (0, 0, 0)))

    def test_an_author_that_is_none(self):
        self.assert_unfit(self.change(3, 1, (2, 1, 0)))
        self.assert_unfit(self.change(99, 1, (2, 1, 0)))

    def test_changes_that_are_there(self):
        known = self.store.changes[0][1]
        self.assertEqual(self.take(known, known, self.store.changes[1][0]).data(), self.store.data())

    def test_another_header(self):
        own_one = self.store.changes[1][0]
        self.assertEqual(own_one.heard, (2, 0, 0))
        for header in [((1, 0, 0), own(1), ()), ((2, 0, 0), None, ()), ((2, 0, 0), own(2), ()),
                       ((2, 0, 0), own(1), (SEAL,)),
                       ((2, 0), own(1), ()), ((2, 0, 0, 0), own(1), ())]:
            self.assert_unfit(self.change(1, 1, header[0], (None,) * 4, header[1], header[2]))
        self.take(self.change(1, 1, (2, 0, 0), (None,) * 4, own(1)))

    def test_another_part(self):
        for part in [(("row", T), ("row", T)), (), (("row", ROW),), (("drop", T),)]:
            self.assert_unfit(self.change(1, 1, (2, 0, 0), (part, None, None, None), own(1)))
        self.assert_unfit(self.change(1, 1, (2, 0, 0), (None, None, None, (("row", T),)), own(1)))

    def test_true_in_the_place_of_one(self):
        for one, other in [(True, 1), (1, True), (0, False)]:
            store = office()
            say(store, 0, [("put", ROW, T, one)])
            change = store.changes[0][2]
            with self.assertRaises(UnfitPacket):
                taking(store, give_packet(changes=[change.with_parts([[("put", ROW, T, other)], None, None, None])]))
            taking(store, give_packet(changes=[change]))

    def test_parts_that_were_not_known(self):
        with_parts(self.store, (0, 2), [None, None, (), None])
        after = self.take(self.change(0, 2, (1, 0, 0), ((("table", "t"),), None, (), ())))
        self.assertEqual(after.changes[0][1].parts, ((("table", "t"),), None, (), ()))
        after = self.take(self.change(0, 2, (1, 0, 0), (None,) * 4))
        self.assertEqual(after.changes[0][1].parts, (None, None, (), None))
        after = self.take(self.change(0, 2, (1, 0, 0), ((), None, None, None)),
                          self.change(0, 2, (1, 0, 0), (None, (), None, None)))
        self.assertEqual(after.changes[0][1].parts, ((), (), (), None))

    def test_a_change_twice_in_one_packet(self):
        after = self.take(self.change(0, 3, (2, 1, 0)), self.change(0, 3, (2, 1, 0), (None, (), None, None)))
        self.assertEqual((after.counts(), after.changes[0][2].parts), ([3, 1, 0], ((), (), (), None)))
        self.assert_unfit(self.change(0, 3, (2, 1, 0)), self.change(0, 3, (2, 1, 0), ((("row", T),), None, None, None)))
        self.assert_unfit(self.change(0, 3, (2, 1, 0)), self.change(0, 3, (2, 0, 0)))

    def test_a_store_that_is_not_whole_afterwards(self):
        for heard in [(1, 1, 0), (3, 1, 0), (2, 2, 0), (2, 1, 1), (2, 1), (2, 1, 0, 0), ()]:
            self.assert_unfit(self.change(0, 3, heard))
        # Nobody hears of less than a change that is heard of.
        self.assert_unfit(self.change(2, 1, (0, 1, 0)))
        self.assert_unfit(self.change(1, 2, (1, 1, 0)))

    def test_changes_that_are_cut_away(self):
        self.store = cut_office()
        packet = give_packet([3, 1, 0], self.store.capabilities, changes=[
            self.change(0, 1, (0, 0, 0), capability=(9, 9, 9)), self.change(1, 1, (7, 7)),
            self.change(1, 2, (3, 1, 0))])
        after = taking(self.store, packet)
        self.assertEqual([change.name() for change in after.all_changes()], [(1, 2)])

    def test_parts_of_changes_behind_a_cut(self):
        self.store = cut_office()
        for turn in range(3):
            say(self.store, 0)
        with_parts(self.store, (0, 5), [None, (), (), None])
        packet = give_packet([3, 1, 0], self.store.capabilities,
                             changes=[self.change(0, 5, (4, 1, 0), ((("row", T),), None, None, None))])
        after = taking(self.store, packet)
        self.assertEqual([change.parts for change in after.changes[0]],
                         [((),) * 4, ((("row", T),), (), (), None), ((),) * 4])

    def test_the_author_and_the_number_of_what_is_cut_away(self):
        self.store = cut_office()
        for change in [self.change(3, 1, (0, 0, 0)), self.change(0, 0, (0, 0, 0))]:
            with self.assertRaises(UnfitPacket):
                taking(self.store, give_packet([3, 1, 0], self.store.capabilities, changes=[change]))

    def test_damaged_packets(self):
        good = give_packet(changes=[self.change(0, 3, (2, 1, 0))])
        taking(self.store, good)
        for bad in [good + [0], good[:-1], [], [2], [1] + good[1:], [0] + good[1:], [3] + good[1:], ask_packet(1),
                    give_packet(changes=[self.change(0, 9, (9, 9))]) + [1], good[:9] + [37] + good[10:]]:
            before = (self.store.data(), list(bad))
            with self.assertRaises(DamagedPacket, msg=bad):
                taking(self.store, bad)
            self.assertEqual((self.store.data(), bad), before)

    def test_a_damaged_packet_is_told_before_an_unfit_one(self):
        with self.assertRaises(DamagedPacket):
            taking(self.store, give_packet([0, 0]) + [0])

    def test_nothing_is_shared(self):
        packet = give_packet(changes=[self.change(0, 3, (2, 1, 0))])
        after = taking(self.store, packet)
        before = after.data()
        packet.clear()
        self.store.changes[0][0].parts = ()
        self.store.changes[0].clear()
        self.assertEqual(after.data(), before)


class SameCut(unittest.TestCase):
    """Part 1 of point 99, where the cut is the same for the founder."""

    def setUp(self):
        self.store = cut_office()
        self.capabilities = self.store.capabilities

    def assert_unfit(self, *arguments):
        before = self.store.data()
        with self.assertRaises(UnfitPacket, msg=arguments):
            taking(self.store, give_packet(*arguments))
        self.assertEqual(self.store.data(), before)

    def test_all_is_equal(self):
        packet = give_packet(self.store.cut, self.capabilities, self.store.kept)
        self.assertEqual(taking(self.store, packet).data(), self.store.data())

    def test_another_length(self):
        for cut in [(), (3,), (3, 1), (3, 1, 0, 0)]:
            self.assert_unfit(cut, self.capabilities)
        for cut in [(), (0,), (9, 9), (9, 9, 9, 9)]:
            self.assert_unfit(cut)

    def test_another_entry(self):
        for cut in [(3, 0, 0), (3, 2, 0), (3, 1, 1)]:
            self.assert_unfit(cut, self.capabilities)

    def test_other_kept_capabilities(self):
        first, second = self.capabilities
        for capabilities in [(), (first,), (second, first), (first, second, second),
                             (first, second[:2] + (1, EVERYTHING)),
                             (first, second[:1] + (first[0], 2, EVERYTHING)),
                             (first, second[:3] + ((ALL, ALL, ALL, READ),))]:
            self.assert_unfit(self.store.cut, capabilities)

    def test_other_kept_things(self):
        kept = list(self.store.kept)
        self.assert_unfit(self.store.cut, self.capabilities, [Kept([], [], [])] + kept[1:])
        self.assert_unfit(self.store.cut, self.capabilities, [None, None, None, Kept([((0, 1, 0), ("table", "x"))], [],
                                                                                     [])])

    def test_true_in_the_place_of_one(self):
        act = ((0, 2, 9), ("put", ROW, T, 1))
        self.store.kept[3] = Kept([act], [], [])
        taking(self.store, give_packet(self.store.cut, self.capabilities, [None, None, None, Kept([act], [], [])]))
        self.assert_unfit(self.store.cut, self.capabilities,
                          [None, None, None, Kept([((0, 2, 9), ("put", ROW, T, True))], [], [])])

    def test_what_was_not_known_is_added(self):
        kept = list(self.store.kept)
        self.store.kept = [None, kept[1], None, kept[3]]
        after = taking(self.store, give_packet(self.store.cut, self.capabilities, [kept[0], None, None, kept[3]]))
        self.assertEqual([one and one.data() for one in after.kept],
                         [kept[0].data(), kept[1].data(), None, kept[3].data()])

    def test_nothing_is_cut(self):
        store = office()
        taking(store, give_packet((0, 0, 0), [], [Kept([], [], [])] * 4))
        with self.assertRaises(UnfitPacket):
            taking(store, give_packet((0, 1, 0)))
        with self.assertRaises(UnfitPacket):
            taking(store, give_packet((0, 0, 0), self.capabilities))
        with self.assertRaises(UnfitPacket):
            taking(store, give_packet((0, 0, 0), [], [self.store.kept[0], None, None, None]))


class EarlierCut(unittest.TestCase):
    def test_all_of_it_is_ignored(self):
        store = cut_office()
        say(store, 0)
        for cut in [(0, 0, 0), (2, 9, 9), (2, 0, 0)]:
            packet = give_packet(cut, [((5, 5, 5), None, 1, EVERYTHING)], [Kept([((0, 1, 0), ("table", "q"))], [],
                                                                                [])] * 4)
            self.assertEqual(taking(store, packet).data(), store.data())

    def test_what_is_not_known_stays_so(self):
        store = cut_office()
        store.kept[0] = None
        self.assertIsNone(taking(store, give_packet((2, 0, 0), [], [Kept([], [], [])] * 4)).kept[0])

    def test_its_changes_are_taken(self):
        old, new = office(), cut_office()
        say(old, 2, heard=[2, 1, 0])
        after = taking(new, giving(old, asking(new, 0)))
        self.assertEqual([change.name() for change in after.all_changes()], [(2, 1)])


class LaterCut(unittest.TestCase):
    def later(self):
        """Returns a store with the same changes as the office and a seal, with the past cut away."""
        return cut_office()

    def test_the_own_store_is_replaced(self):
        store, other = office(), self.later()
        say(store, 1)
        after = taking(store, give_packet(other.cut, other.capabilities, other.kept))
        self.assertEqual((after.cut, after.capabilities), ([3, 1, 0], other.capabilities))
        self.assertEqual([kept.data() for kept in after.kept], [kept.data() for kept in other.kept])
        self.assertEqual([change.name() for change in after.all_changes()], [(1, 2)])
        self.assertEqual(after.counts(), [3, 2, 0])
        self.assertEqual(store.cut, [0, 0, 0])

    def test_a_lesser_entry(self):
        store = self.later()
        for cut in [(4, 0, 0), (9, 0, 9)]:
            before = store.data()
            with self.assertRaises(UnfitPacket):
                taking(store, give_packet(cut, store.capabilities))
            self.assertEqual(store.data(), before)
        self.assertEqual(taking(store, give_packet((4, 1, 0), store.capabilities)).cut, [4, 1, 0])

    def test_other_capabilities_are_taken_over(self):
        store = self.later()
        entries = [((0, 4, 0), None, 2, EVERYTHING)]
        self.assertEqual(taking(store, give_packet((4, 1, 0), entries)).capabilities, entries)

    def sealed(self):
        store = office()
        say(store, 0, publics=[SEAL])
        return store

    def test_without_kept_things_where_all_changes_are_there(self):
        store, other = self.sealed(), self.later()
        say(store, 2)
        after = taking(store, give_packet(other.cut, other.capabilities))
        self.assertEqual([kept.data() for kept in after.kept], [kept.data() for kept in other.kept])
        self.assertEqual([change.name() for change in after.all_changes()], [(2, 1)])

    def test_without_kept_things_where_a_change_lacks(self):
        store, other = office(), self.later()
        after = taking(store, give_packet(other.cut, other.capabilities, [None, None, Kept([], [], []), None]))
        self.assertEqual([kept is None for kept in after.kept], [True, True, False, True])

    def test_without_kept_things_where_a_part_is_not_known(self):
        store, other = self.sealed(), self.later()
        with_parts(store, (0, 2), [None, (), (), ()])
        after = taking(store, give_packet(other.cut, other.capabilities))
        self.assertEqual([kept is None for kept in after.kept], [True, False, False, False])

    def test_without_kept_things_where_what_was_kept_is_not_known(self):
        store = self.later()
        say(store, 0)
        say(store, 0, publics=[SEAL])
        store.kept[1] = None
        other = cut_at(store, last_seal(store))
        after = taking(store, give_packet(other.cut, other.capabilities))
        self.assertEqual([kept is None for kept in after.kept], [False, True, False, False])
        self.assertEqual(after.kept[0].data(), store.kept[0].data())

    def test_what_the_packet_has_goes_before_what_the_own_store_makes(self):
        store, other = self.sealed(), self.later()
        kept = Kept([((0, 1, 0), ("table", "q"))], [], [])
        after = taking(store, give_packet(other.cut, other.capabilities, [kept, None, None, None]))
        self.assertEqual(after.kept[0].data(), kept.data())

    def test_changes_behind_the_cut(self):
        store, other = office(), self.later()
        say(other, 1, [("row", T)])
        say(other, 0)
        packet = giving(other, asking(store, 2))
        after = taking(store, packet)
        self.assertEqual(after.data(), other.data())

    def test_a_store_that_is_not_whole_afterwards(self):
        store, other = office(), self.later()
        change = Change(2, 1, (4, 1, 0), own(2), (), ((),) * 4)
        with self.assertRaises(UnfitPacket):
            taking(store, give_packet(other.cut, other.capabilities, changes=[change]))
        # A change of the own store can be what had heard of more than is there.
        make(store, 2, heard=[2, 1, 0])
        store.changes[2][0] = Change(2, 1, (2, 1, 1), own(2), (), ((),) * 4)
        with self.assertRaises(UnfitPacket):
            taking(store, give_packet(other.cut, other.capabilities))

    def test_a_cut_that_is_no_past_of_a_seal(self):
        store = office()
        after = taking(store, give_packet((1, 1, 1)))
        self.assertEqual((after.cut, after.counts()), ([1, 1, 1], [2, 1, 1]))
        self.assertEqual([kept is None for kept in after.kept], [True] * 4)


class Twice(unittest.TestCase):
    def test_a_packet_twice(self):
        store = office()
        say(store, 0, publics=[SEAL])
        for one in [store, cut_at(store, last_seal(store))]:
            own_store = shown_to(group(3), 1)
            packet = giving(one, asking(own_store, 1))
            once = taking(own_store, packet)
            self.assertEqual(taking(once, packet).data(), once.data())

    def test_an_older_packet(self):
        store = office()
        old = giving(store, asking(Store(3), 1))
        say(store, 2)
        new = taking(Store(3), giving(store, asking(Store(3), 1)))
        self.assertEqual(taking(new, old).data(), new.data())
        say(store, 0, publics=[SEAL])
        cut = cut_at(store, last_seal(store))
        self.assertEqual(taking(cut, old).data(), cut.data())


def prefix(store, counts):
    """Returns a store with only the first so many changes of each member."""
    found = store.copy()
    for member, many in enumerate(counts):
        found.changes[member] = [change for change in found.changes[member] if change.number <= many]
    return found


class Random(unittest.TestCase):
    def test_two_stores_with_the_same_cut(self):
        """Point 100: the one that asks is joined with what is shown to it."""
        many = 0
        for seed in range(40):
            chance = random.Random(100 + seed)
            world = random_world(chance, chance.choice([2, 3, 4]), 20)
            seal = last_seal(world.store)
            cuts = [world.store] + ([cut_at(world.store, seal)] if seal is not None else [])
            for whole in cuts:
                members = whole.members
                for turn in range(4):
                    counts = [[max(many, gone) for many, gone in zip(chance.choice(world.heard), whole.cut)]
                              for k in range(2)]
                    first, second = [prefix(whole, each) for each in counts]
                    if not is_whole(first) or not is_whole(second):
                        continue
                    member = chance.randrange(members)
                    first = joined(shown_to(first, member), shown_to(first, chance.randrange(1, members)))
                    second = shown_to(second, chance.choice([0, chance.randrange(members)]))
                    after = taking(first, giving(second, asking(first, member)))
                    self.assertEqual(repr(after.data()), repr(joined(first, shown_to(second, member)).data()))
                    many += 1
        self.assertGreater(many, 100)

    def test_a_packet_has_nothing_that_may_not_be_read(self):
        for seed in range(15):
            chance = random.Random(300 + seed)
            store = random_world(chance, 4, 20).store
            allowed = verdicts(store)
            for member in range(4):
                cut, capabilities, kept, changes = given(giving(store, asking(Store(4), member)))
                for space in range(SPACES):
                    seen = may_read(store, allowed, member, space)
                    for change in changes:
                        self.assertEqual(change.parts[space] is not None, seen)

    def test_spoilt_packets(self):
        chance = random.Random(99)
        store = office()
        other = store.copy()
        say(other, 0, [("put", ROW, T, 1)], publics=[SEAL, grant(1)])
        say(other, 2, [("row", T)])
        for packet, call in [(giving(other, asking(store, 1)), taking), (asking(store, 1), giving),
                             (giving(cut_at(other, last_seal(other)), asking(store, 1)), taking)]:
            for turn in range(1500):
                spoilt = list(packet)
                spoilt[chance.randrange(len(spoilt))] = chance.choice([0, 1, 2, 128, 255, chance.randrange(256)])
                before = (store.data(), list(spoilt))
                try:
                    found = call(store, spoilt)
                    if call is taking:
                        self.assertTrue(is_whole(found))
                except (DamagedPacket, UnfitPacket):
                    pass
                self.assertEqual((store.data(), spoilt), before)


if __name__ == "__main__":
    unittest.main()
