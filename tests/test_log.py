"""Points 102 and 103: records and logs."""

import random
import unittest

from builders import EVERYTHING, SEAL, grant, group, make, own, say
from kithbase.changes import Change
from kithbase.codes import write_change, write_number, write_store
from kithbase.cutting import cut_at
from kithbase.log import checksum, counting_file, log_start, read_log, read_records, write_record
from kithbase.packets import asking, giving, taking
from kithbase.store import Store


class Records(unittest.TestCase):
    def test_checksums(self):
        self.assertEqual(checksum([]), 7)
        self.assertEqual(checksum([7]), 225)
        self.assertEqual(checksum([7, 8]), 6984)
        self.assertNotEqual(checksum([8, 7]), checksum([7, 8]))
        data = [255] * 100
        total = 7
        for byte in data:
            total = (31 * total + byte + 1) % 2 ** 32
        self.assertEqual(checksum(data), total)
        self.assertLess(checksum(data), 4294967296)

    def test_writing(self):
        self.assertEqual(write_record([7, 8]), [2, 7, 8, 0, 0, 27, 72])
        self.assertEqual(write_record([]), [0, 0, 0, 0, 7])
        self.assertEqual(write_record([0] * 300)[:3], [172, 2, 0])
        for data in [[9] * 40, [200, 1, 255] * 9]:
            self.assertEqual(write_record(data), [len(data)] + data + list(checksum(data).to_bytes(4, "big")))

    def test_random_records(self):
        chance = random.Random(102)
        for turn in range(500):
            data = [chance.randrange(256) for k in range(chance.randrange(1, 60))]
            self.assertEqual(write_record(data), [len(data)] + data + list(checksum(data).to_bytes(4, "big")))
            self.assertEqual(read_records(write_record(data)), ([data], len(data) + 5))

    def test_reading(self):
        records = [[7, 8], [], [0] * 300, [1]]
        data = [byte for record in records for byte in write_record(record)]
        self.assertEqual(read_records(data), (records, len(data)))
        self.assertEqual(read_records([]), ([], 0))

    def test_incomplete_records(self):
        first, second = write_record([7, 8]), write_record([9] * 200)
        for size in range(len(second)):
            self.assertEqual(read_records(first + second[:size]), ([[7, 8]], len(first)))
        for size in range(len(first)):
            self.assertEqual(read_records(first[:size]), ([], 0))

    def test_a_spoilt_byte(self):
        data = write_record([7, 8, 9])
        first = write_record([1])
        for place in range(len(data)):
            for change in [1, 3, 128]:
                spoilt = list(data)
                spoilt[place] = (spoilt[place] + change) % 256
                self.assertEqual(read_records(first + spoilt + data), ([[1]], len(first)), (place, change))

    def test_a_number_that_is_not_in_its_written_form(self):
        data = [130, 0, 7, 8, 0, 0, 27, 72]
        self.assertEqual(read_records(data), ([], 0))
        self.assertEqual(read_records(write_record([]) + [128, 0, 0, 0, 0, 7]), ([[]], 5))
        self.assertEqual(read_records([128] * 70 + [1]), ([], 0))

    def test_a_number_that_is_much_too_great(self):
        self.assertEqual(read_records(write_number(10 ** 30) + [1, 2, 3]), ([], 0))

    def test_nothing_is_shared(self):
        data = write_record([7, 8])
        before = list(data)
        read_records(data)[0][0].clear()
        self.assertEqual((data, read_records(data)), (before, ([[7, 8]], 7)))
        record = [7, 8]
        write_record(record).clear()
        self.assertEqual(record, [7, 8])


def full_store():
    store = group(3)
    say(store, 0, [("table", "t"), ("row", (0, 2, 0))])
    say(store, 1, [("row", (0, 2, 0))])
    return store


def next_change(store, author, heard=None):
    """Returns the next change of the author, which is not added to the store."""
    other = store.copy()
    return make(other, author, [("row", (0, 2, 0))], heard, own(author))


def note(change):
    return write_record([3] + write_change(change))


class Start(unittest.TestCase):
    def test_its_bytes(self):
        store = Store(2)
        self.assertEqual(log_start(1, store),
                         write_record([1, 1]) + write_record([3] + write_store(store)) + write_record([2]))
        self.assertEqual(log_start(300, store)[:3], [3, 1, 172])

    def test_it_is_read(self):
        for store in [Store(1), Store(6), full_store(), cut_at(sealed(), sealed().changes[0][-1])]:
            for turn in [0, 1, 300, 10 ** 20]:
                data = log_start(turn, store)
                told, found, size = read_log(data, store.members)
                self.assertEqual((told, repr(found.data()), size), (turn, repr(store.data()), len(data)))

    def test_files_that_tell_nothing(self):
        store = full_store()
        data = log_start(1, store)
        for size in range(len(data)):
            self.assertIsNone(read_log(data[:size], 3))
        one, two, three = write_record([1, 1]), write_record([3] + write_store(store)), write_record([2])
        for bad in [[], one + two, two + three, one + three, one + three + two, two + one + three,
                    one + one + two + three,
                    three, one + two + two + three, write_record([]) + one + two + three,
                    write_record([1]) + two + three, write_record([1, 1, 0]) + two + three,
                    write_record([2, 1]) + two + three,
                    write_record([1, 128, 0]) + two + three, one + write_record([3]) + three,
                    one + write_record([]) + three,
                    one + write_record([4] + write_store(store)) + three, one + two + write_record([]),
                    one + write_record([3] + write_store(store) + [0]) + three,
                    one + two + write_record([2, 0]) + three,
                    one + two + write_record([3]), one + two + note(next_change(store, 0)),
                    one + two + note(next_change(store, 0)) + three]:
            self.assertIsNone(read_log(bad, 3), bad)
        self.assertEqual(read_log(one + two + three, 3)[2], len(data))

    def test_a_spoilt_byte(self):
        data = log_start(1, full_store())
        for place in range(0, len(data)):
            spoilt = list(data)
            spoilt[place] = (spoilt[place] + 1) % 256
            self.assertIsNone(read_log(spoilt, 3))

    def test_another_number_of_members(self):
        data = log_start(1, full_store())
        for members in [1, 2, 4, 6]:
            self.assertIsNone(read_log(data, members))
        self.assertIsNotNone(read_log(data, 3))


def sealed():
    store = full_store()
    say(store, 0, publics=[SEAL])
    return store


class Notes(unittest.TestCase):
    def setUp(self):
        self.store = full_store()
        self.start = log_start(4, self.store)

    def assert_told(self, notes, counts, size):
        """The log tells of so many changes, and its complete records take so many bytes of the notes."""
        turn, store, found = read_log(self.start + notes, 3)
        self.assertEqual((turn, store.counts(), found), (4, counts, len(self.start) + size))
        return store

    def test_changes(self):
        first = note(next_change(self.store, 0))
        after = self.store.copy()
        after.add(next_change(self.store, 0))
        second = note(next_change(after, 0))
        self.assert_told(first, [3, 1, 0], len(first))
        store = self.assert_told(first + second, [4, 1, 0], len(first + second))
        self.assertEqual(store.changes[0][2].parts[0], (("row", (0, 2, 0)),))

    def test_changes_of_any_member(self):
        for author in range(3):
            found = note(next_change(self.store, author))
            counts = self.store.counts()
            counts[author] += 1
            self.assert_told(found, counts, len(found))

    def assert_ends(self, bad):
        """The bad note ends the log, whatever follows."""
        good = note(next_change(self.store, 0))
        self.assert_told(bad + good, [2, 1, 0], 0)
        after = self.store.copy()
        after.add(next_change(self.store, 2))
        before = note(next_change(self.store, 2))
        self.assert_told(before + bad + note(next_change(after, 0)), [2, 1, 1], len(before))

    def test_a_note_twice(self):
        first = note(next_change(self.store, 0))
        self.assert_told(first + first, [3, 1, 0], len(first))

    def test_a_note_that_jumps(self):
        change = next_change(self.store, 0)
        self.assert_ends(note(Change(0, 4, (3, 1, 0), None, (), change.parts)))
        self.assert_ends(note(Change(0, 2, (1, 0, 0), None, (), change.parts)))
        self.assert_ends(note(Change(0, 0, (0, 0, 0), None, (), change.parts)))
        self.assert_ends(note(self.store.changes[0][1]))

    def test_authors_that_are_none(self):
        for author in [3, 9]:
            self.assert_ends(note(Change(author, 1, (2, 1, 0), None, (), ((),) * 4)))

    def test_a_store_that_is_not_whole_afterwards(self):
        parts = ((),) * 4
        for heard in [(2, 1, 2), (2, 2, 0), (1, 1, 0), (3, 1, 0), (2, 1), (2, 1, 0, 0), ()]:
            self.assert_ends(note(Change(0, 3, heard, None, (), parts)))
        # Its own last change had heard of a change that this one had not.
        self.assert_ends(note(Change(1, 2, (1, 1, 0), own(1), (), parts)))
        self.assert_ends(note(Change(2, 1, (0, 1, 0), own(2), (), parts)))

    def test_changes_that_are_not_allowed(self):
        found = note(Change(0, 3, (2, 1, 0), (7, 7, 7), (), ((),) * 4))
        self.assert_told(found, [3, 1, 0], len(found))

    def test_a_byte_behind_the_end(self):
        data = [3] + write_change(next_change(self.store, 0))
        self.assert_ends(write_record(data + [0]))
        self.assert_ends(write_record(data[:-1]))

    def test_what_is_no_note(self):
        for record in [[], [2], [3], [1, 4], [4] + write_change(next_change(self.store, 0)), [0], [255],
                       [3] + write_store(self.store), asking(self.store, 1)]:
            self.assert_ends(write_record(record))

    def test_incomplete_notes(self):
        first = note(next_change(self.store, 2))
        second = write_record(self.packet())
        for size in range(len(first)):
            self.assert_told(first[:size], [2, 1, 0], 0)
        for size in range(len(second)):
            self.assert_told(first + second[:size], [2, 1, 1], len(first))

    def packet(self, heard=None):
        """Returns a packet that gives one more change of member 1."""
        other = self.store.copy()
        say(other, 1, [("row", (0, 2, 0))])
        return giving(other, asking(self.store, 0))

    def test_packets(self):
        found = write_record(self.packet())
        store = self.assert_told(found, [2, 2, 0], len(found))
        self.assertEqual(store.data(), taking(self.store, self.packet()).data())

    def test_packets_twice(self):
        found = write_record(self.packet())
        self.assert_told(found + found, [2, 2, 0], 2 * len(found))

    def test_packets_and_changes(self):
        first = write_record(self.packet())
        after = taking(self.store, self.packet())
        second = note(next_change(after, 0))
        self.assert_told(first + second, [3, 2, 0], len(first + second))
        third = note(next_change(self.store, 0))
        self.assert_told(third + first, [3, 2, 0], len(third + first))
        self.assert_told(second + first, [2, 1, 0], 0)

    def test_packets_that_do_not_fit(self):
        other = self.store.copy()
        say(other, 1)
        packet = giving(other, asking(self.store, 0))
        say(other, 1)
        gap = giving(other, asking(taking(self.store, packet), 0))
        self.assert_ends(write_record(gap))
        self.assert_ends(write_record(self.packet() + [0]))
        self.assert_ends(write_record(self.packet()[:-1]))
        self.assert_ends(write_record(giving(Store(2), asking(Store(2), 0))))

    def test_a_packet_that_cuts(self):
        other = self.store.copy()
        say(other, 0, publics=[SEAL])
        other = cut_at(other, other.changes[0][-1])
        say(other, 1)
        found = write_record(giving(other, asking(self.store, 0)))
        store = self.assert_told(found, [3, 2, 0], len(found))
        self.assertEqual(store.data(), other.data())

    def test_a_store_that_is_not_whole(self):
        """The conditions look at the store after each note, so a note can make it whole."""
        store = Store(2)
        change = Change(1, 1, (1, 0), None, (), ((),) * 4)
        store.add(change)
        start = log_start(1, store)
        self.assertEqual(read_log(start, 2)[1].counts(), [0, 1])
        good = note(Change(0, 1, (0, 0), None, (), ((),) * 4))
        bad = note(Change(1, 2, (0, 1), None, (), ((),) * 4))
        self.assertEqual(read_log(start + good, 2)[1].counts(), [1, 1])
        self.assertEqual(read_log(start + bad, 2)[1].counts(), [0, 1])
        self.assertEqual(read_log(start + good + note(Change(0, 2, (1, 2), None, (), ((),) * 4)), 2)[1].counts(),
                         [1, 1])
        self.assertEqual(read_log(start + good + note(Change(0, 2, (1, 1), None, (), ((),) * 4)), 2)[1].counts(),
                         [2, 1])

    def test_a_store_that_is_not_whole_for_long(self):
        """A note with which nothing is wrong does not count as long as something else is."""
        store = Store(2)
        store.add(Change(1, 1, (2, 0), None, (), ((),) * 4))
        start = log_start(1, store)
        first, second = [note(Change(0, number, (number - 1, 0), None, (), ((),) * 4)) for number in (1, 2)]
        self.assertEqual(read_log(start + first + second, 2)[1].counts(), [0, 1])
        self.assertEqual(read_log(start + first + second, 2)[2], len(start))

    def test_nothing_is_shared(self):
        data = self.start + note(next_change(self.store, 0))
        before = list(data)
        read_log(data, 3)[1].changes[0].clear()
        self.assertEqual(data, before)
        self.assertEqual(read_log(data, 3)[1].counts(), [3, 1, 0])
        told = self.store.data()
        log_start(1, self.store).clear()
        self.assertEqual(self.store.data(), told)

    def test_many_notes(self):
        store, data = self.store.copy(), list(self.start)
        for turn in range(400):
            change = next_change(store, turn % 3)
            store.add(change)
            data += note(change)
        turn, found, size = read_log(data, 3)
        self.assertEqual((found.counts(), size), (store.counts(), len(data)))


class Counting(unittest.TestCase):
    def test_both_one_or_none(self):
        store = full_store()
        first, second, third = [log_start(turn, store) for turn in (1, 2, 300)]
        for one, two, index in [(first, [], 0), ([], first, 1), ([], [], None), (first, second, 1), (second, first, 0),
                                (second, third, 1), (third, second, 0), (first, first, 0), (first, second[:-1], 0),
                                (first[:-1], second, 1), (second[:-1], first, 1), (first[:-1], second[:-1], None),
                                (first[3:], second, 1), (first, third + [1, 2, 3], 1)]:
            self.assertEqual(counting_file(one, two, 3), index)

    def test_another_number_of_members(self):
        first, second = log_start(1, Store(3)), log_start(2, Store(2))
        self.assertEqual(counting_file(first, second, 3), 0)
        self.assertEqual(counting_file(first, second, 2), 1)
        self.assertIsNone(counting_file(first, second, 4))


class Random(unittest.TestCase):
    def test_cut_and_spoilt_logs(self):
        """Whatever happens to a log, what is left of it is the front of it."""
        chance = random.Random(103)
        store = full_store()
        data, ends = log_start(1, store), []
        for turn in range(12):
            ends.append((len(data), store.counts()))
            change = next_change(store, chance.randrange(3))
            store.add(change)
            data = data + note(change)
        ends.append((len(data), store.counts()))
        for turn in range(300):
            place = chance.randrange(ends[0][0], len(data))
            spoilt = list(data)
            if chance.random() < 0.5:
                del spoilt[place:]
            else:
                spoilt[place] = (spoilt[place] + chance.randrange(1, 256)) % 256
            told = [(size, counts) for size, counts in ends if size <= place][-1]
            found = read_log(spoilt, 3)
            self.assertEqual((found[2], found[1].counts()), told)


if __name__ == "__main__":
    unittest.main()
