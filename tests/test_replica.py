"""Points 104 to 107 and 110, and what live results of replicas tell."""

import unittest

from builders import ALL, BOTH, EVERYTHING, NONE, NOTHING, READ, SEAL, WRITE, grant, make, revoke
from kithbase.changes import Change
from kithbase.codes import write_change
from kithbase.cutting import cut_at, last_seal
from kithbase.errors import DamagedPacket, InvalidArgument, KindMismatch, NoReason, NothingToTrim, RefusedText
from kithbase.errors import UncountedChange, UnfitPacket, UnknownColumn, UnknownParameter, UnknownTable
from kithbase.files import File
from kithbase.log import log_start, read_log, read_records, write_record
from kithbase.packets import asking, giving, taking
from kithbase.replica import Replica, Watch
from kithbase.store import Store
from networks import store_of

T, N, COUNT, ROW = (0, 2, 0), (0, 2, 1), (0, 2, 2), (0, 2, 3)
SETUP = [("table", "t"), ("column", T, "n", "integer"), ("column", T, "c", "counter"), ("row", T), ("put", ROW, N, 5)]


def own(member):
    return None if member == 0 else (0, 1, member - 1)


def give(giver, taker):
    taker.take(giver.answer(taker.have()))


def group(members, rights=EVERYTHING):
    """Returns replicas that all have the two first changes of the founder."""
    replicas = [Replica(member, members) for member in range(members)]
    replicas[0].act(None, [grant(member, rights) for member in range(1, members)], {})
    replicas[0].act(None, [], {0: SETUP})
    for replica in replicas[1:]:
        give(replicas[0], replica)
    return replicas


def logs(replica):
    return [replica.log(0), replica.log(1)]


class New(unittest.TestCase):
    def test_members_that_are_none(self):
        for member, members in [(0, 0), (0, 7), (1, 1), (-1, 3), (3, 3), (6, 6), (True, 2), (0, True), (False, 3),
                                (0, "3"), ("0", 3), (None, 3), (0, None), (0, -1), (0, [1]), ((0,), 1)]:
            with self.assertRaises(InvalidArgument, msg=(member, members)):
                Replica(member, members)

    def test_members(self):
        for members in range(1, 7):
            for member in range(members):
                replica = Replica(member, members)
                self.assertEqual(replica.status(), ([0] * members, [0] * members, [True] * 4))

    def test_its_files(self):
        replica = Replica(1, 2)
        self.assertEqual(logs(replica), [log_start(1, Store(2)), []])
        # All of it is lasting.
        replica.power(0, 0)
        self.assertEqual(logs(replica), [log_start(1, Store(2)), []])

    def test_it_asks(self):
        self.assertEqual(Replica(1, 3).have(), asking(Store(3), 1))

    def test_it_has_no_tables(self):
        with self.assertRaises(UnknownTable):
            Replica(0, 1).ask("select id from s0_t")
        self.assertEqual(Replica(0, 1).ask("select 1 as a"), (["a"], [(1,)]))


class Acting(unittest.TestCase):
    def assert_uncounted(self, replica, *arguments):
        before = (logs(replica), replica.status(), replica.conflicts(0))
        with self.assertRaises(UncountedChange, msg=arguments):
            replica.act(*arguments)
        self.assertEqual((logs(replica), replica.status(), replica.conflicts(0)), before)

    def test_names(self):
        replica = Replica(0, 2)
        self.assertEqual(replica.act(None, [], {}), (0, 1))
        self.assertEqual(replica.act(None, [], {0: [("table", "t")]}), (0, 2))
        self.assertEqual(replica.status()[0], [2, 0])

    def test_the_change(self):
        a, b = group(2)
        self.assertEqual(b.act((0, 1, 0), [revoke(None)], {1: [("table", "q")], 3: []}), (1, 1))
        change = store_of(b, 2).changes[1][0]
        self.assertEqual(change.header(), (1, 1, (2, 0), (0, 1, 0), (("revoke", None),)))
        self.assertEqual(change.parts, ((), (("table", "q"),), (), ()))
        self.assertIs(b.verdict((1, 1)), True)

    def test_a_note_is_appended(self):
        a, b = group(2)
        before = b.log(0)
        b.act((0, 1, 0), [], {})
        change = Change(1, 1, (2, 0), (0, 1, 0), (), ((),) * 4)
        self.assertEqual(b.log(0), before + write_record([3] + write_change(change)))
        self.assertEqual(b.log(1), [])

    def test_a_change_that_is_not_fit(self):
        a, b, c = group(3, (ALL, BOTH, ALL, READ))
        self.assert_uncounted(b, None, [], {})
        self.assert_uncounted(b, own(2), [], {})
        self.assert_uncounted(a, own(1), [], {})
        self.assert_uncounted(b, (0, 1, 9), [], {})
        self.assert_uncounted(b, (0, 2, 0), [], {})
        self.assert_uncounted(b, (1, 1, 0), [grant(1)], {})
        self.assert_uncounted(b, own(1), [SEAL], {})
        self.assert_uncounted(b, own(1), [grant(2, EVERYTHING)], {})
        self.assert_uncounted(b, own(1), [grant(2, (NONE, READ, NONE, NONE))], {})
        b.act(own(1), [grant(2, (ALL, NONE, ALL, NONE)), revoke(own(2)), revoke(None)], {})

    def test_a_space_that_may_not_be_written(self):
        a, b = group(2, (READ, WRITE, NONE, ALL))
        for space in [0, 2]:
            self.assert_uncounted(b, own(1), [], {space: [("table", "q")]})
            self.assert_uncounted(b, own(1), [], {1: [("table", "q")], space: [("undo", (0, 1))]})
        self.assertEqual(b.act(own(1), [], {1: [("table", "q")], 3: [("table", "q")]}), (1, 1))

    def test_an_empty_list_of_acts_there(self):
        a, b = group(2, NOTHING)
        self.assertEqual(b.act(own(1), [], {0: [], 1: [], 2: [], 3: []}), (1, 1))
        self.assertEqual(b.act(own(1), [], {}), (1, 2))

    def test_a_capability_that_is_not_held(self):
        a, b, c = group(3)
        b.act(own(1), [grant(2)], {})
        give(b, c)
        c.act((1, 1, 0), [], {})
        a.act(None, [revoke(own(1))], {})
        give(a, c)
        self.assert_uncounted(c, (1, 1, 0), [], {})
        give(a, b)
        self.assert_uncounted(b, own(1), [], {})
        self.assertEqual(c.act(own(2), [], {}), (2, 2))

    def test_who_has_not_heard_goes_on(self):
        a, b, c = group(3)
        a.act(None, [revoke(own(1))], {})
        b.act(own(1), [], {0: [("put", ROW, N, 9)]})
        self.assertEqual(b.ask("select n from s0_t")[1], [(9,)])
        give(a, b)
        self.assertEqual(b.ask("select n from s0_t")[1], [(5,)])
        self.assertIs(b.verdict((1, 1)), False)

    def test_a_capability_of_a_change_that_is_not_allowed(self):
        a, b, c = group(3)
        b.act(own(1), [grant(2)], {})
        give(b, c)
        a.act(None, [SEAL], {})
        give(a, c)
        self.assert_uncounted(c, (1, 1, 0), [], {})

    def test_kept_capabilities(self):
        a, b, c = group(3)
        a.act(None, [SEAL], {})
        a.trim()
        give(a, b)
        self.assertEqual(b.status()[1], [3, 0, 0])
        self.assertEqual(b.act(own(1), [grant(2)], {0: [("put", ROW, N, 1)]}), (1, 1))
        self.assert_uncounted(b, own(2), [], {})
        self.assert_uncounted(b, (1, 1, 0), [], {})
        a.act(None, [revoke(own(1))], {})
        give(a, b)
        self.assert_uncounted(b, own(1), [], {})

    def test_an_own_revocation_does_nothing(self):
        a, b = group(2)
        b.act(own(1), [revoke(own(1))], {})
        self.assertEqual(b.act(own(1), [], {}), (1, 2))

    def test_seals(self):
        a, b = group(2)
        a.act(None, [SEAL, SEAL, grant(1)], {0: [("row", T)]})
        give(a, b)
        self.assertEqual([b.verdict((0, number)) for number in range(5)], [None, True, True, True, None])

    def test_nothing_that_is_passed_is_shared(self):
        replica = Replica(0, 2)
        rights = [[True, True, True]] * 4
        publics, acts = [["grant", 1, rights]], [["table", "t"], ["unique", [0, 1, 0], [[0, 1, 1]]]]
        parts = {0: acts}
        replica.act(None, publics, parts)
        self.assertEqual((publics, parts), ([["grant", 1, rights]], {0: acts}))
        before = (logs(replica), replica.have(), replica.conflicts(0), replica.status())
        publics.clear()
        acts[0][1] = "x"
        acts.clear()
        parts[1] = [("table", "y")]
        self.assertEqual((logs(replica), replica.have(), replica.conflicts(0), replica.status()), before)
        self.assertEqual(replica.ask("select id from s0_t"), (["id"], []))


class Packets(unittest.TestCase):
    def test_they_are_those_of_the_store(self):
        a, b = group(2)
        b.act(own(1), [], {0: [("put", ROW, N, 6)]})
        self.assertEqual(a.have(), asking(store_of(a, 2), 0))
        asked = a.have()
        self.assertEqual(b.answer(asked), giving(store_of(b, 2), asked))
        before, packet = store_of(a, 2), b.answer(asked)
        self.assertIsNone(a.take(packet))
        self.assertEqual(store_of(a, 2).data(), taking(before, packet).data())
        self.assertEqual(a.ask("select n from s0_t")[1], [(6,)])

    def test_taking_appends_a_note(self):
        a, b = group(2)
        packet = b.answer(a.have())
        for turn in range(2):
            before = a.log(0)
            a.take(packet)
            self.assertEqual(a.log(0), before + write_record(packet))

    def test_damaged_and_unfit_packets(self):
        a, b = group(2)
        asked = a.have()
        b.act(own(1), [], {})
        b.have()
        first = b.answer(asked)
        b.act(own(1), [], {})
        a_behind = Replica(0, 2)
        for replica, packet, error in [(a, asked, DamagedPacket), (a, [], DamagedPacket),
                                       (a, first + [0], DamagedPacket),
                                       (a, first[:-1], DamagedPacket), (a_behind, first, UnfitPacket),
                                       (a, Replica(0, 3).answer(Replica(0, 3).have()), UnfitPacket)]:
            before = (logs(replica), replica.status())
            with self.assertRaises(error):
                replica.take(packet)
            self.assertEqual((logs(replica), replica.status()), before)
        for packet in [first, [], asked + [0], asked[:-1], Replica(0, 3).have()]:
            before = logs(a)
            with self.assertRaises(DamagedPacket):
                a.answer(packet)
            self.assertEqual(logs(a), before)

    def test_nothing_is_shared(self):
        a, b = group(2)
        b.act(own(1), [], {})
        asked = a.have()
        a.have().clear()
        self.assertEqual(a.have(), asked)
        packet = b.answer(asked)
        told = list(packet)
        b.answer(asked).clear()
        self.assertEqual((b.answer(asked), asked), (told, a.have()))
        a.take(packet)
        self.assertEqual(packet, told)
        before = (logs(a), a.status())
        packet.clear()
        self.assertEqual((logs(a), a.status()), before)

    def test_before_a_packet_is_returned_the_log_is_flushed(self):
        for word in ["have", "answer"]:
            a, b = group(2)
            asked = b.have()
            a.act(None, [], {})
            a.have() if word == "have" else a.answer(asked)
            before = a.log(0)
            a.power(0, 0)
            self.assertEqual(a.log(0), before)

    def test_a_damaged_packet_does_not_flush(self):
        a, b = group(2)
        a.have()
        before = a.log(0)
        a.act(None, [], {})
        with self.assertRaises(DamagedPacket):
            a.answer([])
        a.power(0, 0)
        self.assertEqual(a.log(0), before)

    def test_what_is_not_flushed_can_be_lost(self):
        a, b = group(2)
        a.have()
        before = a.log(0)
        a.act(None, [], {})
        a.take(b.answer(asking(store_of(a, 2), 0)))
        a.power(0, 0)
        self.assertEqual(a.log(0), before)

    def test_flush(self):
        a, b = group(2)
        a.act(None, [], {})
        self.assertIsNone(a.flush())
        before = a.log(0)
        a.power(0, 0)
        self.assertEqual(a.log(0), before)


class Asking(unittest.TestCase):
    def test_the_example(self):
        a, b = Replica(0, 2), Replica(1, 2)
        none, table, row = (False, False, False), (0, 1, 0), (0, 1, 2)
        acts = [("table", "t"), ("column", table, "i", "integer"), ("row", table), ("put", row, (0, 1, 1), 5)]
        self.assertEqual(a.act(None, [("grant", 1, ((True, True, False), none, none, none))], {0: acts}), (0, 1))
        self.assertEqual(a.ask("select id, i from s0_t"), (["id", "i"], [("0.1.2", 5)]))
        b.take(a.answer(b.have()))
        self.assertEqual(b.act((0, 1, 0), [], {0: [("put", row, (0, 1, 1), 6)]}), (1, 1))
        self.assertEqual(a.act(None, [], {0: [("put", row, (0, 1, 1), 7)]}), (0, 2))
        a.take(b.answer(a.have()))
        self.assertEqual(a.ask("select i from s0_t"), (["i"], [(6,)]))
        self.assertEqual(a.conflicts(0), ([], [], [((0, 1, 2), (0, 1, 1), (7, 6))]))

    def test_parameters(self):
        a, b = group(2)
        self.assertEqual(a.ask("select n + $1 as m from s0_t where n = $2", [2, 5]), (["m"], [(7,)]))
        self.assertEqual(a.ask("select $1 as m", (True,)), (["m"], [(True,)]))
        with self.assertRaises(UnknownParameter):
            a.ask("select $1")

    def test_errors(self):
        a, b = group(2)
        for call in [a.ask, a.live]:
            with self.assertRaises(RefusedText) as caught:
                call("select from")
            self.assertEqual(caught.exception.position, 7)
            with self.assertRaises(UnknownTable):
                call("select 1 from s0_x")
            with self.assertRaises(KindMismatch):
                call("select 1 + $1", ["x"])
            with self.assertRaises(UnknownColumn):
                call("select n from s0_t order by x")

    def test_several_spaces(self):
        a, b = group(2, (READ, BOTH, NONE, NONE))
        a.act(None, [], {1: [("table", "u"), ("row", (0, 3, 0))], 2: [("table", "v")]})
        give(a, b)
        self.assertEqual(b.ask("select s0_t.id, s1_u.id from s0_t join s1_u on true")[1], [("0.2.3", "0.3.1")])
        with self.assertRaises(UnknownTable):
            b.ask("select 1 from s2_v")
        self.assertEqual(a.ask("select id from s2_v")[1], [])
        self.assertEqual(b.status(), ([3, 0], [0, 0], [True, True, False, False]))
        self.assertEqual(a.status(), ([3, 0], [0, 0], [True] * 4))

    def test_verdicts(self):
        a, b = group(2)
        self.assertEqual([a.verdict(name) for name in [(0, 1), (0, 2), (0, 3), (0, 0), (1, 1), (7, 1), (-1, 1)]],
                         [True, True, None, None, None, None, None])
        a.act(None, [revoke(own(1))], {})
        b.act(own(1), [], {})
        self.assertIs(b.verdict((1, 1)), True)
        give(a, b)
        self.assertIs(b.verdict((1, 1)), False)
        a.act(None, [SEAL], {})
        a.trim()
        self.assertIsNone(a.verdict((0, 1)))

    def test_status(self):
        a, b = group(2)
        a.act(None, [SEAL], {})
        a.act(None, [], {})
        self.assertEqual(a.status(), ([4, 0], [0, 0], [True] * 4))
        a.trim()
        self.assertEqual(a.status(), ([4, 0], [3, 0], [True] * 4))

    def test_conflicts_of_each_space(self):
        a, b = group(2)
        a.act(None, [], {2: [("table", "u"), ("table", "u")]})
        self.assertEqual(a.conflicts(2), ([((0, 3, 1), "u", (0, 3, 0))], [], []))
        self.assertEqual([a.conflicts(space) for space in (0, 1, 3)], [([], [], [])] * 3)

    def test_nothing_that_is_returned_is_shared(self):
        a, b = group(2)
        a.act(None, [], {0: [("table", "t")]})
        for call in [lambda: a.ask("select * from s0_t"), lambda: a.status(), lambda: a.conflicts(0),
                     lambda: a.log(0), lambda: a.why("select n from s0_t", [], (5,)), lambda: a.have()]:
            before = repr(call())
            spoil(call())
            self.assertEqual(repr(call()), before)

    def test_parameters_are_not_changed(self):
        a, b = group(2)
        parameters = [5]
        a.ask("select 1 from s0_t where n = $1", parameters)
        a.why("select 1 from s0_t where n = $1", parameters, (1,))
        watch = a.live("select n from s0_t where n = $1", parameters)
        self.assertEqual(parameters, [5])
        parameters[0] = "x"
        parameters.append(1)
        self.assertEqual(watch.turn(), (["n"], [(5,)], []))


def spoil(thing):
    """Modifies all lists in what was returned."""
    if isinstance(thing, (list, tuple)):
        for part in thing:
            spoil(part)
    if isinstance(thing, list):
        thing.clear()
        thing.append("spoilt")


class Why(unittest.TestCase):
    def test_the_ways_of_a_row(self):
        a, b = group(2)
        b.act(own(1), [], {0: [("row", T), ("put", (1, 1, 0), N, 5), ("add", ROW, COUNT, 2)]})
        give(b, a)
        self.assertEqual(a.why("select n from s0_t", [], (5,)),
                         [[("s0_t", "0.2.3", [(0, 2), (1, 1), (0, 1)])], [("s0_t", "1.1.0", [(1, 1), (0, 1), (0, 2)])]])
        self.assertEqual(a.why("select x.n from s0_t x join s0_t y on x.id < y.id where x.n = $1", [5], (5,)),
                         [[("s0_t", "0.2.3", [(0, 2), (1, 1), (0, 1)]), ("s0_t", "1.1.0", [(1, 1), (0, 1), (0, 2)])]])

    def test_rows_without_a_way(self):
        a, b = group(2)
        self.assertEqual(a.why("select n from s0_t", [], (6,)), [])
        self.assertEqual(a.why("select n from s0_t", [], (True,)), [])
        self.assertEqual(a.why("select 1", (), (1,)), [[]])

    def test_errors(self):
        a, b = group(2)
        for text, error in [("select", RefusedText), ("select x, count(*) from s0_t", UnknownColumn),
                            ("select count(*) from s0_t", NoReason), ("select $1", UnknownParameter)]:
            with self.assertRaises(error):
                a.why(text, [], (1,))

    def test_the_same_behind_a_cut(self):
        a, b = group(2)
        b.act(own(1), [], {0: [("put", ROW, N, 6), ("add", ROW, COUNT, 1)]})
        give(b, a)
        a.act(None, [SEAL], {})
        give(a, b)
        b.act(own(1), [], {0: [("add", ROW, COUNT, 1)]})
        give(b, a)
        before = a.why("select * from s0_t", [], ("0.2.3", 6, 2))
        self.assertEqual(before, [[("s0_t", "0.2.3", [(0, 2), (1, 1), (1, 2), (0, 1)])]])
        a.trim()
        self.assertEqual(a.why("select * from s0_t", [], ("0.2.3", 6, 2)), before)


class Live(unittest.TestCase):
    def test_rows_that_come_and_go(self):
        a, b = group(2)
        watch = a.live("select n from s0_t where n > $1", [4])
        self.assertIsInstance(watch, Watch)
        self.assertEqual(watch.turn(), (["n"], [(5,)], []))
        self.assertEqual(watch.turn(), (["n"], [], []))
        b.act(own(1), [], {0: [("put", ROW, N, 6), ("row", T), ("put", (1, 1, 1), N, 5)]})
        self.assertEqual(watch.turn(), (["n"], [], []))
        give(b, a)
        self.assertEqual(watch.turn(), (["n"], [(6,)], []))
        a.act(None, [], {0: [("put", ROW, N, 4)]})
        self.assertEqual(watch.turn(), (["n"], [], [(6,)]))

    def test_the_first_turn_starts_with_nothing(self):
        a, b = group(2)
        watch = a.live("select n from s0_t")
        a.act(None, [], {0: [("put", ROW, N, 8)]})
        self.assertEqual(watch.turn(), (["n"], [(8,)], []))

    def test_an_error_in_a_turn(self):
        a, b = Replica(0, 2), Replica(1, 2)
        b_table, space = (1, 1, 0), (ALL, NONE, NONE, NONE)
        a.act(None, [grant(1, space)], {})
        give(a, b)
        b.act(own(1), [], {0: [("table", "t"), ("row", b_table), ("column", b_table, "n", "integer"),
                               ("put", (1, 1, 1), (1, 1, 2), 3)]})
        watch = b.live("select n from s0_t")
        self.assertEqual(watch.turn(), (["n"], [(3,)], []))
        # The founder undoes the change with the table, so that the question is wrong for a while.
        give(b, a)
        a.act(None, [], {0: [("undo", (1, 1))]})
        give(a, b)
        for turn in range(2):
            with self.assertRaises(UnknownTable):
                watch.turn()
        b.act(own(1), [], {0: [("undo", (0, 2))]})
        b.act(own(1), [], {0: [("put", (1, 1, 1), (1, 1, 2), 4)]})
        self.assertEqual(watch.turn(), (["n"], [(4,)], [(3,)]))

    def test_behind_an_opening(self):
        a, b = group(2)
        a.flush()
        watch = a.live("select n from s0_t")
        watch.turn()
        a.act(None, [], {0: [("put", ROW, N, 9)]})
        self.assertEqual(watch.turn(), (["n"], [(9,)], [(5,)]))
        a.power(0, 0)
        a.open_again()
        # The change was lost, and the answer that was told last is remembered.
        self.assertEqual(watch.turn(), (["n"], [(5,)], [(9,)]))

    def test_behind_a_cut(self):
        a, b = group(2)
        a.act(None, [SEAL], {})
        watch = a.live("select * from s0_t")
        watch.turn()
        a.trim()
        self.assertEqual(watch.turn(), (["id", "n", "c"], [], []))

    def test_watches_share_nothing(self):
        a, b = group(2)
        one, two = a.live("select n from s0_t"), a.live("select n from s0_t")
        spoil(one.turn())
        self.assertEqual(one.turn(), (["n"], [], []))
        self.assertEqual(two.turn(), (["n"], [(5,)], []))


class Bounds(unittest.TestCase):
    """Points 5 and 6: the values that may be written, and the sizes of networks."""

    def test_values(self):
        every = "".join(chr(code) for code in range(32, 127) if code != 37) + "\n"
        most = 10 ** 40 - 1
        values = {"integer": [0, most, -most, None], "text": ["", every, "x" * 2000, "it's", None],
                  "boolean": [True, False, None]}
        for holds in values:
            replica = Replica(0, 1)
            replica.act(None, [], {3: [("table", "t"), ("column", (0, 1, 0), "v", holds), ("row", (0, 1, 0))]})
            for value in values[holds]:
                replica.act(None, [], {3: [("put", (0, 1, 2), (0, 1, 1), value)]})
                told = repr((["v"], [(value,)]))
                self.assertEqual(repr(replica.ask("select v from s3_t")), told)
                replica.flush()
                replica.power(0, 0)
                replica.open_again()
                self.assertEqual(repr(replica.ask("select v from s3_t")), told)
                if value is not None:
                    self.assertEqual(replica.ask("select v = $1 as e from s3_t", [value]), (["e"], [(True,)]))

    def test_sums_and_long_texts(self):
        replica = Replica(0, 1)
        t, counter, letters, row = [(0, 1, place) for place in range(4)]
        replica.act(None, [], {0: [("table", "t"), ("column", t, "c", "counter"), ("column", t, "l", "letters"),
                                   ("row", t)]})
        most = 10 ** 40 - 1
        for turn in range(12):
            replica.act(None, [], {0: [("add", row, counter, most), ("insert", row, letters, None, "y" * 200)]})
        told = (["c", "l"], [(12 * most, "y" * 2400)])
        self.assertEqual(replica.ask("select c, l from s0_t"), told)
        replica.act(None, [SEAL], {})
        replica.trim()
        replica.power(0, 0)
        replica.open_again()
        self.assertEqual(replica.ask("select c, l from s0_t"), told)

    def test_the_greatest_network(self):
        replicas = group(6)
        for member in range(1, 6):
            replicas[member].act(own(member), [], {space: [("table", "m")] for space in range(4)})
            give(replicas[member], replicas[0])
        self.assertEqual(replicas[0].status(), ([2] + [1] * 5, [0] * 6, [True] * 4))
        for space in range(4):
            self.assertEqual(replicas[0].ask(f"select * from s{space}_m"), (["id"], []))
            self.assertEqual(len(replicas[0].conflicts(space)[0]), 4)


class Trimming(unittest.TestCase):
    def test_it_cuts_at_the_last_seal(self):
        a, b = group(2)
        a.act(None, [SEAL], {})
        a.act(None, [SEAL], {0: [("put", ROW, N, 7)]})
        a.act(None, [], {0: [("put", ROW, N, 8)]})
        before = store_of(a, 2)
        answers = (a.ask("select * from s0_t"), a.conflicts(0))
        self.assertIsNone(a.trim())
        after = cut_at(before, last_seal(before))
        self.assertEqual(store_of(a, 2).data(), after.data())
        self.assertEqual(a.status(), ([5, 0], [4, 0], [True] * 4))
        self.assertEqual((a.ask("select * from s0_t"), a.conflicts(0)), answers)
        self.assertEqual(logs(a), [[], log_start(2, after)])

    def test_the_other_file_counts_then(self):
        a, b = group(2)
        a.act(None, [SEAL], {})
        a.trim()
        before = a.log(1)
        a.act(None, [SEAL], {})
        self.assertEqual(a.log(0), [])
        self.assertEqual(a.log(1)[:len(before)], before)
        self.assertGreater(len(a.log(1)), len(before))
        a.trim()
        self.assertEqual(a.log(1), [])
        self.assertEqual(read_log(a.log(0), 2)[0], 3)
        self.assertEqual(a.status(), ([4, 0], [4, 0], [True] * 4))
        a.flush()
        a.power(0, 0)
        a.open_again()
        self.assertEqual(a.status(), ([4, 0], [4, 0], [True] * 4))

    def assert_nothing_to_trim(self, replica):
        before = (logs(replica), replica.status())
        with self.assertRaises(NothingToTrim):
            replica.trim()
        self.assertEqual((logs(replica), replica.status()), before)

    def test_without_a_seal(self):
        a, b = group(2)
        self.assert_nothing_to_trim(Replica(0, 1))
        self.assert_nothing_to_trim(a)

    def test_twice(self):
        a, b = group(2)
        a.act(None, [SEAL], {})
        a.trim()
        self.assert_nothing_to_trim(a)
        a.act(None, [], {})
        self.assert_nothing_to_trim(a)

    def test_any_member(self):
        a, b = group(2)
        a.act(None, [SEAL], {})
        give(a, b)
        b.trim()
        self.assertEqual(b.status(), ([3, 0], [3, 0], [True] * 4))

    def test_a_space_that_may_not_be_read_need_not_be_known(self):
        a, b = group(2, (BOTH, WRITE, NONE, NONE))
        a.act(None, [SEAL], {})
        give(a, b)
        b.act(own(1), [], {1: [("table", "q")]})
        b.trim()
        self.assertEqual(b.status(), ([3, 1], [3, 0], [True, False, False, False]))
        self.assertEqual(b.ask("select n from s0_t")[1], [(5,)])

    def test_a_space_that_may_be_read_and_is_not_known(self):
        a, b = group(2, (BOTH, NONE, NONE, NONE))
        a.act(None, [], {1: [("table", "u"), ("row", (0, 3, 0))]})
        give(a, b)
        a.act(None, [grant(1, (NONE, READ, NONE, NONE)), SEAL], {})
        # The packet has the new change alone, so that the older parts of the space are still not known.
        b.take(giving(store_of(a, 2), [1, 1, 2, 0, 0, 2, 3, 0, 1, 1, 1, 1, 0, 0, 0, 0]))
        self.assertEqual(b.status()[2], [True, False, False, False])
        self.assert_nothing_to_trim(b)
        give(a, b)
        self.assertEqual(b.status()[2], [True, True, False, False])
        b.trim()
        self.assertEqual(b.ask("select id from s1_u")[1], [("0.3.1",)])

    def test_what_is_not_known_behind_the_seal_does_not_matter(self):
        a, b = group(2, (BOTH, NONE, NONE, NONE))
        a.act(None, [grant(1, (NONE, READ, NONE, NONE)), SEAL], {})
        give(a, b)
        give(a, b)
        self.assertEqual(b.status()[2], [True, True, False, False])
        store = store_of(a, 2)
        store.add(Change(0, 4, (3, 0), None, (), ((), None, None, None)))
        b.take(giving(store, b.have()))
        self.assertEqual(b.status()[2], [True, False, False, False])
        b.trim()
        self.assertEqual(b.status(), ([4, 0], [3, 0], [True, False, False, False]))

    def test_what_is_kept_is_not_known(self):
        a, b = group(2, (BOTH, NONE, NONE, NONE))
        a.act(None, [SEAL], {})
        give(a, b)
        b.trim()
        a.act(None, [grant(1, (NONE, READ, NONE, NONE)), SEAL], {})
        b.take(giving(store_of(a, 2), asking(store_of(b, 2), 1)))
        self.assertEqual(b.status()[2], [True, False, False, False])
        self.assert_nothing_to_trim(b)
        # The founder cuts too, and gives what is kept.
        a.trim()
        give(a, b)
        self.assertEqual(b.status(), ([4, 0], [4, 0], [True, True, False, False]))


if __name__ == "__main__":
    unittest.main()
