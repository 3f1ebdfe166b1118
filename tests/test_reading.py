"""Point 96: how data are read from bytes."""

import random
import unittest

from builders import ALL, EVERYTHING, NONE, NOTHING, SEAL, grant, make, revoke
from kithbase.changes import Change
from kithbase.codes import write_act, write_capability, write_change, write_integer, write_kept, write_number
from kithbase.codes import write_store, write_string, write_value
from kithbase.cutting import cut_at
from kithbase.errors import DamagedPacket
from kithbase.reading import Reader
from kithbase.rights import allowed_seals, verdicts
from kithbase.store import Kept, Store
from worlds import random_world

A, B, M = (1, 2, 3), (0, 300, 0), (1, 2, 3, 4)
TAILS = [[], [0], [7, 0, 255], [128], [1] * 50]


def read(word, data):
    """Reads a thing, and returns it with the place where the reader is then."""
    reader = Reader(data)
    return getattr(reader, "read_" + word)(), reader.at


class Reading(unittest.TestCase):
    def assert_read(self, word, data, thing):
        """Reads the bytes as the thing, whatever follows; every byte of them is needed."""
        for tail in TAILS:
            found, at = read(word, data + tail)
            self.assertEqual((repr(found), at), (repr(thing), len(data)), (word, data))
        for size in range(len(data)):
            self.assert_damaged(word, data[:size])

    def assert_damaged(self, word, *all_data):
        for data in all_data:
            with self.assertRaises(DamagedPacket, msg=(word, data)):
                reader = Reader(data)
                getattr(reader, "read_" + word)()


class Numbers(Reading):
    def test_numbers(self):
        for number in [0, 1, 127, 128, 300, 16383, 16384, 10 ** 15, 10 ** 40, 10 ** 40 - 1, 10 ** 80]:
            self.assert_read("number", write_number(number), number)

    def test_each_small_number(self):
        for number in range(1000):
            self.assertEqual(read("number", write_number(number) + [5]), (number, len(write_number(number))))

    def test_needless_last_bytes(self):
        self.assert_damaged("number", [128, 0], [129, 0], [172, 130, 0], [255, 128, 128, 0], [])
        self.assertEqual(read("number", [0, 0]), (0, 1))
        self.assertEqual(read("number", [128, 128, 1]), (16384, 3))

    def test_sixty_bytes(self):
        longest = [128] * 59 + [1]
        self.assert_read("number", longest, 128 ** 59)
        self.assert_read("number", [255] * 59 + [127], 2 ** 420 - 1)
        self.assert_damaged("number", [128] * 60 + [1], [255] * 60 + [127], [128] * 1000 + [1])

    def test_integers(self):
        for number in [0, 1, -1, 300, -300, 10 ** 40, -10 ** 40, 10 ** 60]:
            self.assert_read("integer", write_integer(number), number)

    def test_wrong_integers(self):
        self.assert_damaged("integer", [1, 0], [2, 5], [255, 1], [0, 128, 0], [129, 0, 1])
        self.assertEqual(read("integer", [0, 0]), (0, 2))


class Strings(Reading):
    def test_strings(self):
        every = "".join(chr(code) for code in range(32, 127) if code != 37)
        for text in ["", "a", "\n", "it's \"\\", every, "x" * 2001, " ~"]:
            found, at = read("string", write_string(text) + [3])
            self.assertEqual((found, at), (text, len(write_string(text))))
        self.assert_read("string", write_string("ab\n"), "ab\n")

    def test_each_character(self):
        for code in range(400):
            data = [1] + write_number(code)
            if code == 10 or (32 <= code <= 126 and code != 37):
                self.assertEqual(read("string", data), (chr(code), 2))
            else:
                self.assert_damaged("string", data)

    def test_characters_that_are_none(self):
        for code in [37, 0, 9, 11, 13, 31, 127, 128, 10 ** 9]:
            self.assert_damaged("string", [3, 97] + write_number(code) + [97])

    def test_lists_longer_than_the_bytes_that_are_left(self):
        self.assert_damaged("string", [1], [3, 97, 97], [255, 255, 255, 255, 127, 97], [128] * 50 + [1])


class ReadValues(Reading):
    def test_each_kind(self):
        for value in [None, True, False, 0, 1, -1, 10 ** 40, "", "1", "a\n"]:
            self.assert_read("value", write_value(value), value)

    def test_wrong_ones(self):
        self.assert_damaged("value", [4], [1, 2], [1, 255, 1], [2, 1, 0], [2, 2, 0], [3, 1, 37], [128, 0], [255, 1, 0])


class Acts(Reading):
    ACTS = [("table", "t"), ("unique", A, ()), ("unique", A, (B, A)), ("row", B), ("drop", A), ("put", A, B, None),
            ("put", A, B, True), ("put", A, B, 1), ("put", A, B, "hi"), ("refer", A, B, None), ("refer", A, B, A),
            ("add", A, B, -7), ("add", A, B, 0), ("insert", A, B, None, "ab"), ("insert", A, B, M, ""), ("remove", M),
            ("undo", (4, 130))] + [("column", A, "n", holds) for holds in [
                "integer", "text", "boolean", "counter", "letters", ("refer", B)]]

    def test_each_act(self):
        for act in self.ACTS:
            self.assert_read("act", write_act(act), act)

    def test_only_the_form_is_checked(self):
        for act in [("table", ""), ("table", "A b!" * 50), ("add", A, B, 10 ** 50), ("put", A, B, "x" * 3000),
                    ("put", A, B, -10 ** 60), ("insert", A, B, None, "y" * 1000), ("undo", (99, 0)),
                    ("row", (7, 0, 10 ** 30)), ("remove", (0, 0, 0, 0))]:
            self.assertEqual(read("act", write_act(act))[0], act)

    def test_wrong_ones(self):
        self.assert_damaged("act", [], [11], [200, 1], [1, 1, 2, 3, 1, 97, 6], [1, 1, 2, 3, 1, 97, 255],
                            [1, 1, 2, 3, 1, 97, 6, 1, 2, 3],
                            [5, 1, 2, 3, 1, 2, 3, 4], [6, 1, 2, 3, 1, 2, 3, 2], [8, 1, 2, 3, 1, 2, 3, 3, 0],
                            [7, 1, 2, 3, 1, 2, 3, 1, 0], [2, 1, 2, 3, 2, 1, 2, 3], [139, 0, 1, 1, 1])


class Changes(Reading):
    def assert_same(self, change):
        data = write_change(change)
        for tail in TAILS:
            reader = Reader(data + tail)
            found = reader.read_change()
            self.assertIsInstance(found, Change)
            self.assertEqual(repr(found.header() + (found.parts,)), repr(change.header() + (change.parts,)))
            self.assertEqual(reader.at, len(data))
        for size in range(len(data)):
            self.assert_damaged("change", data[:size])

    def test_changes(self):
        publics = (revoke(None), revoke(A), SEAL, grant(3, ((True, False, False), NONE, ALL, NONE)), grant(9, NOTHING))
        parts = (tuple(Acts.ACTS), (), None, (("undo", (0, 1)),))
        self.assert_same(Change(0, 1, (0,), None, (), ((),) * 4))
        self.assert_same(Change(2, 300, (1, 128, 299), B, publics, parts))
        self.assert_same(Change(7, 0, (), (9, 0, 0), (), (None,) * 4))

    def test_wrong_ones(self):
        start, parts = [0, 1, 1, 0], [0] * 4
        self.assert_damaged("change", start + [2, 0] + parts, start + [0, 1, 3] + parts, start + [0, 1, 1, 2] + parts,
                            start + [0, 0] + [2, 0, 0, 0], start + [0, 0] + [0, 0, 0, 255],
                            start + [0, 1, 0, 3] + [0] * 11 + [2] + parts, [0, 1, 90, 0, 0, 0] + parts,
                            start + [0, 0] + [1, 99, 0, 0, 0], start + [0, 0] + [1, 1, 11, 0, 0, 0])

    def test_a_list_of_acts_longer_than_the_bytes(self):
        data = write_change(Change(0, 1, (0,), None, (), ((), (), (), ())))
        self.assert_damaged("change", data[:-1] + [1], data[:-1] + [255, 255, 255, 127])


class Stores(Reading):
    def assert_data(self, word, data, told):
        for tail in TAILS:
            reader = Reader(data + tail)
            self.assertEqual(repr(getattr(reader, "read_" + word)().data()), repr(told))
            self.assertEqual(reader.at, len(data))
        for size in range(len(data)):
            self.assert_damaged(word, data[:size])

    KEPT = Kept([(A, ("row", B)), (B, ("table", "t"))], [((A, B), -300), ((B, A), 10 ** 41)],
                [((A, A), [(M, "a"), ((0, 1, 0, 0), "\n")]), ((B, B), [])])

    def test_what_is_kept(self):
        for kept in [Kept([], [], []), self.KEPT]:
            self.assert_data("kept", write_kept(kept), kept.data())

    def test_wrong_kept_things(self):
        self.assert_damaged("kept", [1, 1, 2, 3, 11, 0, 0], [0, 1, 1, 2, 3, 1, 2, 3, 1, 0, 0],
                            [0, 0, 1, 1, 2, 3, 1, 2, 3, 1, 1, 2, 3, 4, 37], [0, 0, 1], [0, 5, 1, 1])

    def test_capabilities(self):
        for entry in [(A, None, 3, EVERYTHING), (B, A, 0, ((False, True, False), NONE, NONE, ALL)),
                      (B, B, 70, NOTHING)]:
            self.assert_read("capability", write_capability(entry), entry)
        self.assert_damaged("capability", [1, 2, 3, 0, 1] + [1] * 11 + [2], [1, 2, 3, 2, 1] + [1] * 12)

    def store(self):
        store = Store(3)
        store.cut = [300, 0, 2]
        store.capabilities = [(A, None, 1, EVERYTHING), (B, A, 0, NOTHING)]
        store.kept = [None, self.KEPT, None, Kept([], [], [])]
        make(store, 0, [("table", "t")])
        make(store, 0, publics=[SEAL])
        make(store, 2, parts=[None, [], None, [("row", A)]])
        return store

    def test_stores(self):
        for store in [Store(1), Store(6), self.store()]:
            self.assert_data("store", write_store(store), store.data())

    def start(self, cut):
        """Returns the bytes of a store up to its changes, with this cut."""
        return [len(cut)] + [byte for many in cut for byte in write_number(many)] + [0] + [0] * 4

    def test_the_size_of_the_network(self):
        self.assert_damaged("store", [0] + [0] + [1, 0, 0, 0] * 4, [0, 0, 0, 0, 0, 0])
        self.assert_damaged("store", self.start([0] * 7) + [0] * 7, self.start([0] * 7))
        for members in range(1, 7):
            self.assertEqual(Reader(self.start([0] * members) + [0] * members).read_store().members, members)

    def test_another_number_of_lists(self):
        for lists in range(6):
            reader = Reader(self.start([0, 0, 0]) + [0] * lists)
            with self.assertRaises(DamagedPacket) if lists != 3 else self.subTest():
                reader.read_store()
                reader.end()

    def change(self, author, number):
        return write_change(Change(author, number, (0, 0), None, (), ((),) * 4))

    def test_authors_and_numbers(self):
        for cut, first, second in [
                ([0, 0], [self.change(1, 1)], []), ([0, 0], [], [self.change(0, 1)]), ([0, 0], [], [self.change(2, 1)]),
                ([0, 0], [self.change(0, 2)], []), ([0, 0], [self.change(0, 0)], []),
                ([0, 0], [self.change(0, 1), self.change(0, 3)], []), ([0, 0], [self.change(0, 1)] * 2, []),
                ([0, 0], [self.change(0, 2), self.change(0, 1)], []), ([5, 0], [self.change(0, 5)], []),
                ([5, 0], [self.change(0, 1)], []), ([5, 0], [self.change(0, 7)], []),
                ([0, 3], [], [self.change(1, 3)])]:
            data = self.start(cut)
            for line in (first, second):
                data += [len(line)] + [byte for change in line for byte in change]
            self.assert_damaged("store", data)
        data = self.start([5, 0]) + [2] + self.change(0, 6) + self.change(0, 7) + [1] + self.change(1, 1)
        self.assertEqual(Reader(data).read_store().counts(), [7, 1])

    def test_it_need_not_be_whole(self):
        change = write_change(Change(0, 1, (9, 9, 9), (8, 8, 8), (), ((),) * 4))
        self.assertEqual(Reader(self.start([0]) + [1] + change).read_store().counts(), [1])

    def test_random_stores(self):
        for seed in range(12):
            store = random_world(random.Random(196 + seed), 3, 20).store
            for one in [store] + [cut_at(store, seal) for seal in allowed_seals(store, verdicts(store))]:
                data = write_store(one)
                reader = Reader(data)
                self.assertEqual(repr(reader.read_store().data()), repr(one.data()))
                reader.end()

    def test_spoilt_bytes(self):
        chance = random.Random(96)
        store = self.store()
        data = write_store(store)
        for turn in range(3000):
            spoilt = list(data)
            for k in range(chance.choice([1, 1, 2])):
                spoilt[chance.randrange(len(spoilt))] = chance.choice([0, 1, 2, 37, 128, 255, chance.randrange(256)])
            try:
                reader = Reader(spoilt)
                found = reader.read_store()
                reader.end()
            except DamagedPacket:
                continue
            # What is read has no other written form.
            self.assertEqual(write_store(found), spoilt)


class End(unittest.TestCase):
    def test_bytes_left(self):
        reader = Reader([5, 6])
        with self.assertRaises(DamagedPacket):
            reader.end()
        self.assertEqual((reader.read_number(), reader.at), (5, 1))
        with self.assertRaises(DamagedPacket):
            reader.end()
        self.assertEqual((reader.read_number(), reader.at), (6, 2))
        self.assertIsNone(reader.end())
        with self.assertRaises(DamagedPacket):
            reader.read_number()

    def test_no_bytes(self):
        self.assertIsNone(Reader([]).end())
        self.assertEqual(Reader([]).at, 0)

    def test_several_things(self):
        reader = Reader(write_value("x") + write_act(("undo", (1, 2))) + write_string("y") + [0, 9])
        self.assertEqual([reader.read_value(), reader.read_act(), reader.read_string(), reader.read_integer()],
                         ["x", ("undo", (1, 2)), "y", 9])
        reader.end()

    def test_the_bytes_are_not_shared(self):
        data = [1, 2, 3]
        reader = Reader(data)
        data.clear()
        self.assertEqual([reader.read_number() for k in range(3)], [1, 2, 3])
        reader.end()
        self.assertEqual(data, [])

    def test_what_is_read_is_not_shared(self):
        store = Store(1)
        make(store, 0, [("unique", A, (B,))])
        data = write_store(store)
        reader = Reader(data)
        reader.read_store().changes[0].clear()
        self.assertEqual(Reader(data).read_store().data(), store.data())


if __name__ == "__main__":
    unittest.main()
