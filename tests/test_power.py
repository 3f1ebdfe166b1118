"""Points 101 and 108 to 110: power that fails at each step of each call, and what is opened behind it."""

import unittest

from builders import EVERYTHING, SEAL, grant
from kithbase.changes import Change
from kithbase.codes import write_change
from kithbase.cutting import cut_at, last_seal
from kithbase.errors import DamagedPacket, NothingToTrim, PowerOff, ReplicaClosed, ReplicaOpen, UncountedChange
from kithbase.files import File
from kithbase.log import counting_file, log_start, read_log, write_record
from kithbase.packets import giving
from kithbase.replica import Replica
from kithbase.store import SPACES, Store
from networks import store_of
from test_files import Plain

EMPTY = [2, 2, 0, 0, 0, 0, 0, 0, 0, 0]
ALL = 10 ** 9


class Mirror:
    """A replica, and two files in which each of its steps is done again as points 104 to 109 tell it."""

    def __init__(self, member, members):
        self.replica = Replica(member, members)
        self.member, self.members = member, members
        self.files, self.counting, self.turn = [Plain(), Plain()], 0, 1
        self.apply(writing(0, log_start(1, Store(members))) + [("flush", 0)])

    def store(self):
        return store_of(self.replica, self.members)

    def contents(self):
        return [one.content() for one in self.files]

    def logs(self):
        return [self.replica.log(0), self.replica.log(1)]

    def apply(self, steps):
        for word, index, *rest in steps:
            if word == "byte":
                self.files[index].write(rest, None)
            elif word == "shorten":
                self.files[index].shorten(rest[0], None)
            else:
                self.files[index].flush(None)

    def steps(self, word, *arguments):
        """Returns the list of the steps of a call."""
        if word in ("have", "answer", "flush"):
            return [("flush", self.counting)]
        if word == "take":
            return writing(self.counting, write_record(arguments[0]))
        if word == "act":
            capability, publics, parts = arguments
            store = self.store()
            change = Change(self.member, store.count(self.member) + 1, store.counts(), capability, publics,
                            [parts.get(space, []) for space in range(SPACES)])
            return writing(self.counting, write_record([3] + write_change(change)))
        if word == "trim":
            after, other = cut_at(self.store(), last_seal(self.store())), 1 - self.counting
            log = log_start(self.turn + 1, after)
            return [("shorten", other, 0)] + writing(other, log) + [("flush", other), ("shorten", self.counting, 0)]
        return self.steps_of_opening()

    def steps_of_opening(self):
        contents = self.contents()
        counting = counting_file(contents[0], contents[1], self.members)
        steps = []
        if counting is None:
            log = log_start(1, Store(self.members))
            steps = [("shorten", 0, 0), ("shorten", 1, 0)] + writing(0, log) + [("flush", 0)]
            contents, counting = [log, []], 0
        size = read_log(contents[counting], self.members)[2]
        return steps + [("shorten", counting, size), ("flush", counting), ("shorten", 1 - counting, 0)]

    def do(self, word, *arguments):
        """Calls a method of the replica, and does its steps again."""
        steps = self.steps(word, *arguments)
        found = getattr(self.replica, word)(*arguments)
        self.apply(steps)
        if word == "trim":
            self.counting, self.turn = 1 - self.counting, self.turn + 1
        if word == "open_again":
            self.counting = counting_file(*self.contents(), self.members)
            self.turn = read_log(self.contents()[self.counting], self.members)[0]
        return found

    def power(self, first, second):
        self.replica.power(first, second)
        self.files[0].lose(first)
        self.files[1].lose(second)


def writing(index, data):
    return [("byte", index, byte) for byte in data]


TABLE = [("table", "t"), ("column", (0, 1, 0), "n", "integer"), ("row", (0, 1, 0)), ("put", (0, 1, 2), (0, 1, 1), 5)]
GRANT = (None, [grant(1, EVERYTHING)], {0: TABLE})
WRITE = (None, [], {0: [("put", (0, 1, 2), (0, 1, 1), 6)]})
SEALING = (None, [SEAL], {})


def started():
    """A replica with a flushed change and one that is not flushed."""
    mirror = Mirror(0, 2)
    mirror.do("act", *GRANT)
    mirror.do("flush")
    mirror.do("act", *WRITE)
    return mirror


def sealed():
    mirror = started()
    mirror.do("act", *SEALING)
    return mirror


def trimmed():
    """A replica that has just trimmed, so that the truncation of its first file is not flushed."""
    mirror = sealed()
    mirror.do("trim")
    return mirror


def trimmed_and_written():
    mirror = trimmed()
    mirror.do("act", *WRITE)
    mirror.do("act", *SEALING)
    return mirror


def closed():
    """A replica that was closed while its second file was written."""
    mirror = sealed()
    steps = mirror.steps("trim")
    mirror.replica.fail_after(40)
    try:
        mirror.replica.trim()
    except PowerOff:
        mirror.apply(steps[:40])
    mirror.power(ALL, ALL)
    return mirror


def closed_behind_a_trim():
    """A replica with two files that tell something."""
    mirror = sealed()
    steps = mirror.steps("trim")
    mirror.replica.fail_after(len(steps) - 1)
    try:
        mirror.replica.trim()
    except PowerOff:
        mirror.apply(steps[:-1])
    mirror.power(ALL, ALL)
    return mirror


def closed_within_a_note():
    mirror = started()
    steps = mirror.steps("act", *WRITE)
    mirror.replica.fail_after(5)
    try:
        mirror.replica.act(*WRITE)
    except PowerOff:
        mirror.apply(steps[:5])
    mirror.power(ALL, ALL)
    return mirror


def closed_with_files_that_tell_nothing():
    mirror = started()
    mirror.power(ALL, ALL)
    for index, data in enumerate([[1, 2, 3, 4], [9] * 7]):
        # No call can make such files, so they are put there.
        one = File()
        one.write(data, None)
        one.flush(None)
        mirror.replica._disks.files[index] = one
        mirror.files[index] = Plain()
        mirror.files[index].write(data, None)
        mirror.files[index].flush(None)
    return mirror


def packet():
    """Returns a packet that gives two changes of member 1."""
    a, b = Replica(0, 2), Replica(1, 2)
    a.act(*GRANT)
    b.take(a.answer(b.have()))
    for value in (7, 8):
        b.act((0, 1, 0), [], {0: [("put", (0, 1, 2), (0, 1, 1), value)]})
    return b.answer(a.have())


CALLS = [(started, "act", WRITE), (started, "act", SEALING), (started, "take", (packet(),)), (started, "have", ()),
         (started, "answer", (Replica(1, 2).have(),)), (started, "flush", ()), (sealed, "trim", ()),
         (trimmed, "act", WRITE), (trimmed, "flush", ()), (trimmed_and_written, "trim", ()),
         (trimmed_and_written, "have", ()), (closed, "open_again", ()), (closed_behind_a_trim, "open_again", ()),
         (closed_within_a_note, "open_again", ()), (closed_with_files_that_tell_nothing, "open_again", ())]
OTHERS = [("act", WRITE), ("have", ()), ("answer", ([],)), ("take", ([],)), ("ask", ("",)), ("live", ("",)),
          ("why", ("", [], ())), ("conflicts", (0,)), ("verdict", ((0, 1),)), ("status", ()), ("trim", ()),
          ("flush", ())]


class Steps(unittest.TestCase):
    def test_calls_do_the_steps_that_are_told(self):
        for make, word, arguments in CALLS:
            mirror = make()
            self.assertEqual(mirror.logs(), mirror.contents(), word)
            mirror.do(word, *arguments)
            self.assertEqual(mirror.logs(), mirror.contents(), word)

    def test_exactly_as_many_steps_as_are_needed(self):
        for make, word, arguments in CALLS:
            mirror = make()
            many = len(mirror.steps(word, *arguments))
            mirror.replica.fail_after(many)
            mirror.do(word, *arguments)
            self.assertEqual(mirror.logs(), mirror.contents(), word)
            # Nothing is left for one more step.
            mirror.replica.status()
            with self.assertRaises(PowerOff):
                mirror.replica.flush()

    def test_one_step_more(self):
        for make, word, arguments in CALLS:
            mirror = make()
            mirror.replica.fail_after(len(mirror.steps(word, *arguments)) + 1)
            mirror.do(word, *arguments)
            mirror.do("flush")
            with self.assertRaises(PowerOff):
                mirror.replica.flush()

    def test_how_many_steps_there_are(self):
        self.assertEqual(len(started().steps("flush")), 1)
        self.assertEqual(len(closed().steps("open_again")), 3)
        start = len(log_start(1, Store(2)))
        self.assertEqual(len(closed_with_files_that_tell_nothing().steps("open_again")), 2 + start + 1 + 3)


def chosen(many):
    """Returns those of so many steps at which power is to fail: all, or where there are many of them most."""
    return [at for at in range(many) if at < 12 or many - at < 12 or at % 5 == 0]


class Failures(unittest.TestCase):
    def test_power_fails_at_each_step(self):
        for make, word, arguments in CALLS:
            many = len(make().steps(word, *arguments))
            for at in chosen(many):
                mirror = make()
                steps = mirror.steps(word, *arguments)
                mirror.replica.fail_after(at)
                with self.assertRaises(PowerOff):
                    getattr(mirror.replica, word)(*arguments)
                mirror.apply(steps[:at])
                self.assertEqual(mirror.logs(), mirror.contents(), (word, at))

    def test_what_has_arrived_and_what_is_opened(self):
        for make, word, arguments in CALLS:
            many = len(make().steps(word, *arguments))
            for at in chosen(many):
                for first, second in [(0, 0), (ALL, 0), (0, ALL), (ALL, ALL), (1, 1), (at // 2, at // 3)]:
                    mirror = make()
                    lasting = [Plain(), Plain()]
                    steps = mirror.steps(word, *arguments)
                    mirror.replica.fail_after(at)
                    with self.assertRaises(PowerOff):
                        getattr(mirror.replica, word)(*arguments)
                    mirror.apply(steps[:at])
                    mirror.power(first, second)
                    self.assertEqual(mirror.logs(), mirror.contents(), (word, at, first, second))
                    self.assert_opens(make, mirror)

    def assert_opens(self, make, mirror):
        """Opens the replica, which then tells what its files tell; what was flushed is not lost."""
        contents = mirror.contents()
        counting = counting_file(contents[0], contents[1], mirror.members)
        store = Store(mirror.members)
        if counting is not None:
            store = read_log(contents[counting], mirror.members)[1]
        self.assertTrue(store.has((0, 1)) or make is closed_with_files_that_tell_nothing)
        mirror.do("open_again")
        self.assertEqual(mirror.logs(), mirror.contents())
        self.assertEqual(mirror.replica.status()[:2], (store.counts(), store.cut))
        self.assertEqual(mirror.store().data(), store.data())
        self.assertEqual(mirror.replica.log(1 - mirror.counting), [])
        # It goes on from there.
        mirror.do("act", *(SEALING if store.has((0, 1)) else GRANT))
        self.assertEqual(mirror.logs(), mirror.contents())
        mirror.do("flush")
        mirror.power(0, 0)
        self.assertEqual(mirror.logs(), mirror.contents())

    def test_power_fails_again_while_opening(self):
        for make in [closed, closed_behind_a_trim, closed_within_a_note, closed_with_files_that_tell_nothing]:
            for at in range(len(make().steps("open_again"))):
                for first, second in [(0, 0), (ALL, 0), (0, ALL), (1, ALL)]:
                    mirror = make()
                    steps = mirror.steps("open_again")
                    for turn in range(2):
                        steps = mirror.steps("open_again")[:at]
                        if len(steps) < at or at >= len(mirror.steps("open_again")):
                            break
                        mirror.replica.fail_after(at)
                        with self.assertRaises(PowerOff):
                            mirror.replica.open_again()
                        mirror.apply(steps)
                        mirror.power(first, second)
                        self.assertEqual(mirror.logs(), mirror.contents())
                    self.assert_opens(make, mirror)

    def test_no_change_that_was_given_is_lost(self):
        for at in range(60):
            a, b = Replica(0, 2), Replica(1, 2)
            a.act(*GRANT)
            b.take(a.answer(b.have()))
            a.fail_after(at)
            try:
                a.act(*WRITE)
                b.take(a.answer(b.have()))
                a.act(*WRITE)
                b.take(a.answer(b.have()))
            except PowerOff:
                pass
            a.power(0, 0)
            a.open_again()
            self.assertGreaterEqual(a.status()[0][0], b.status()[0][0])


class Switch(unittest.TestCase):
    def test_in_the_dark(self):
        mirror = started()
        mirror.replica.fail_after(0)
        watch = mirror.replica.live("select 1")
        with self.assertRaises(PowerOff):
            mirror.replica.flush()
        for turn in range(2):
            for word, arguments in OTHERS + [("fail_after", (5,)), ("open_again", ())]:
                with self.assertRaises(PowerOff, msg=word):
                    getattr(mirror.replica, word)(*arguments)
            with self.assertRaises(PowerOff):
                watch.turn()
            self.assertEqual(mirror.logs(), mirror.contents())

    def test_closed(self):
        mirror = started()
        watch = mirror.replica.live("select 1")
        mirror.power(ALL, ALL)
        for word, arguments in OTHERS:
            with self.assertRaises(ReplicaClosed, msg=word):
                getattr(mirror.replica, word)(*arguments)
        with self.assertRaises(ReplicaClosed):
            watch.turn()
        self.assertEqual(mirror.logs(), mirror.contents())
        self.assertIsNone(mirror.replica.fail_after(1))
        mirror.replica.power(0, 0)
        self.assertIsNone(mirror.replica.open_again())
        self.assertEqual(watch.turn(), ([""], [(1,)], []))

    def test_open(self):
        mirror = started()
        with self.assertRaises(ReplicaOpen):
            mirror.replica.open_again()
        mirror.power(0, 0)
        mirror.replica.open_again()
        with self.assertRaises(ReplicaOpen):
            mirror.replica.open_again()

    def test_calls_without_steps_in_need_of_none(self):
        mirror = started()
        mirror.replica.fail_after(0)
        self.assertEqual(mirror.replica.ask("select n from s0_t"), (["n"], [(6,)]))
        self.assertEqual(mirror.replica.status(), ([2, 0], [0, 0], [True] * 4))
        self.assertEqual(mirror.replica.live("select n from s0_t").turn(), (["n"], [(6,)], []))
        self.assertEqual(mirror.replica.why("select 1", [], (1,)), [[]])
        self.assertEqual((mirror.replica.conflicts(0), mirror.replica.verdict((0, 1))), (([], [], []), True))
        with self.assertRaises(PowerOff):
            mirror.replica.have()

    def test_errors_use_no_step(self):
        mirror = started()
        mirror.replica.fail_after(1)
        for word, arguments, error in [("act", ((0, 1, 0), [], {}), UncountedChange), ("take", ([],), DamagedPacket),
                                       ("answer", ([],), DamagedPacket), ("trim", (), NothingToTrim)]:
            with self.assertRaises(error):
                getattr(mirror.replica, word)(*arguments)
        mirror.do("flush")
        self.assertEqual(mirror.logs(), mirror.contents())

    def test_a_later_failure_replaces_an_earlier_one(self):
        mirror = started()
        mirror.replica.fail_after(0)
        mirror.replica.fail_after(2)
        mirror.do("flush")
        mirror.replica.fail_after(1)
        mirror.do("flush")
        with self.assertRaises(PowerOff):
            mirror.replica.flush()

    def test_the_steps_of_several_calls_are_counted_together(self):
        mirror = started()
        many = len(mirror.steps("act", *WRITE))
        mirror.replica.fail_after(many + 2)
        mirror.do("flush")
        mirror.do("act", *WRITE)
        mirror.do("have")
        with self.assertRaises(PowerOff):
            mirror.replica.act(*WRITE)
        self.assertEqual(mirror.logs(), mirror.contents())

    def test_a_failure_that_is_set_on_a_closed_replica(self):
        mirror = started()
        mirror.power(0, 0)
        mirror.replica.fail_after(3)
        mirror.do("open_again")
        with self.assertRaises(PowerOff):
            mirror.replica.flush()

    def test_power_ends_a_failure_that_was_set(self):
        mirror = started()
        mirror.replica.fail_after(0)
        mirror.power(0, 0)
        mirror.do("open_again")
        for turn in range(20):
            mirror.do("flush")
        self.assertEqual(mirror.logs(), mirror.contents())

    def test_power_without_a_failure(self):
        for first in [0, 1, 7, ALL]:
            mirror = started()
            self.assertIsNone(mirror.power(first, 0))
            self.assertEqual(mirror.logs(), mirror.contents())
            with self.assertRaises(ReplicaClosed):
                mirror.replica.flush()

    def test_power_twice(self):
        mirror = started()
        mirror.power(3, 0)
        before = mirror.logs()
        mirror.power(0, 0)
        self.assertEqual(mirror.logs(), before)
        mirror.do("open_again")
        self.assertEqual(mirror.replica.status()[0], [1, 0])

    def test_the_files_fail_independently(self):
        for first, second, counting in [(0, 0, 1), (ALL, 0, 1), (ALL, ALL, 1)]:
            mirror = trimmed()
            mirror.do("act", *WRITE)
            mirror.power(first, second)
            self.assertEqual(mirror.logs(), mirror.contents())
            self.assertEqual(mirror.replica.log(0) == [], first > 0)
            mirror.do("open_again")
            self.assertEqual(mirror.counting, counting)
            self.assertEqual(mirror.replica.status(), ([4 if second else 3, 0], [3, 0], [True] * 4))

    def test_the_log_in_the_dark(self):
        mirror = started()
        steps = mirror.steps("act", *WRITE)
        mirror.replica.fail_after(4)
        with self.assertRaises(PowerOff):
            mirror.replica.act(*WRITE)
        mirror.apply(steps[:4])
        self.assertEqual(mirror.logs(), mirror.contents())
        mirror.replica.log(0).clear()
        self.assertEqual(mirror.logs(), mirror.contents())

    def test_a_change_in_whose_note_power_failed(self):
        for arrived, counts in [(0, [1, 0]), (ALL, [2, 0])]:
            mirror = started()
            mirror.replica.fail_after(10)
            with self.assertRaises(PowerOff):
                mirror.replica.act(*WRITE)
            mirror.replica.power(arrived, arrived)
            mirror.replica.open_again()
            self.assertEqual(mirror.replica.status()[0], counts)
            self.assertEqual(mirror.replica.act(*WRITE), (0, counts[0] + 1))


class FilesThatTellNothing(unittest.TestCase):
    def test_the_replica_is_new_then(self):
        mirror = closed_with_files_that_tell_nothing()
        mirror.do("open_again")
        self.assertEqual(mirror.logs(), [log_start(1, Store(2)), []])
        self.assertEqual(mirror.replica.status(), ([0, 0], [0, 0], [True] * 4))
        mirror.power(0, 0)
        self.assertEqual(mirror.logs(), mirror.contents())


if __name__ == "__main__":
    unittest.main()
