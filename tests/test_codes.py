"""Point 96: how data are written as bytes."""

import random
import unittest

from builders import ALL, EVERYTHING, NONE, SEAL, grant, make, revoke
from kithbase.changes import Change
from kithbase.codes import write_act, write_capability, write_change, write_integer, write_kept, write_number
from kithbase.codes import write_store, write_string, write_value
from kithbase.cutting import cut_at
from kithbase.rights import allowed_seals, verdicts
from kithbase.store import Kept, Store
from worlds import random_world

A, B, C = (1, 2, 3), (0, 300, 0), (5, 1, 128)
# The written forms of these three spots.
IN_A, IN_B, IN_C = [1, 2, 3], [0, 172, 2, 0], [5, 1, 128, 1]


class Numbers(unittest.TestCase):
    def test_natural_numbers(self):
        for number, data in [(0, [0]), (1, [1]), (127, [127]), (128, [128, 1]), (129, [129, 1]), (255, [255, 1]),
                             (300, [172, 2]), (16383, [255, 127]), (16384, [128, 128, 1]),
                             (2 ** 21, [128, 128, 128, 1])]:
            self.assertEqual(write_number(number), data)

    def test_great_numbers(self):
        for number in [10 ** 40, 10 ** 40 - 1, 2 ** 133, 2 ** 140 - 1, 10 ** 15]:
            data = write_number(number)
            self.assertEqual(sum((byte % 128) * 128 ** place for place, byte in enumerate(data)), number)
            self.assertEqual([byte >= 128 for byte in data], [True] * (len(data) - 1) + [False])
            self.assertNotEqual(data[-1], 0)
            self.assertEqual(write_integer(number), [0] + data)
            self.assertEqual(write_integer(-number), [1] + data)

    def test_integers(self):
        for number, data in [(0, [0, 0]), (5, [0, 5]), (-5, [1, 5]), (300, [0, 172, 2]), (-300, [1, 172, 2]),
                             (-1, [1, 1])]:
            self.assertEqual(write_integer(number), data)


class Strings(unittest.TestCase):
    def test_strings(self):
        self.assertEqual(write_string(""), [0])
        self.assertEqual(write_string("ab"), [2, 97, 98])
        self.assertEqual(write_string("\n ~"), [3, 10, 32, 126])
        self.assertEqual(write_string("x" * 300), [172, 2] + [120] * 300)


class WrittenValues(unittest.TestCase):
    def test_each_kind(self):
        for value, data in [(None, [0]), (False, [1, 0]), (True, [1, 1]), (0, [2, 0, 0]), (1, [2, 0, 1]),
                            (-1, [2, 1, 1]),
                            ("", [3, 0]), ("1", [3, 1, 49]), (10 ** 40, [2, 0] + write_number(10 ** 40))]:
            self.assertEqual(write_value(value), data)


class Acts(unittest.TestCase):
    def test_each_act(self):
        for act, data in [
                (("table", "t"), [0, 1, 116]), (("column", A, "n", "integer"), [1] + IN_A + [1, 110, 0]),
                (("unique", A, ()), [2] + IN_A + [0]), (("unique", A, (B, C)), [2] + IN_A + [2] + IN_B + IN_C),
                (("row", B), [3] + IN_B), (("drop", C), [4] + IN_C), (("put", A, B, None), [5] + IN_A + IN_B + [0]),
                (("put", A, B, True), [5] + IN_A + IN_B + [1, 1]), (("put", A, B, 1), [5] + IN_A + IN_B + [2, 0, 1]),
                (("put", A, B, "hi"), [5] + IN_A + IN_B + [3, 2, 104, 105]),
                (("refer", A, B, None), [6] + IN_A + IN_B + [0]), (("refer", A, B, C), [6] + IN_A + IN_B + [1] + IN_C),
                (("add", A, B, -7), [7] + IN_A + IN_B + [1, 7]), (("add", A, B, 0), [7] + IN_A + IN_B + [0, 0]),
                (("insert", A, B, None, "ab"), [8] + IN_A + IN_B + [0, 2, 97, 98]),
                (("insert", A, B, (1, 2, 3, 4), ""), [8] + IN_A + IN_B + [1, 1, 2, 3, 4, 0]),
                (("remove", (1, 2, 3, 200)), [9, 1, 2, 3, 200, 1]), (("undo", (4, 130)), [10, 4, 130, 1])]:
            self.assertEqual(write_act(act), data, act)

    def test_each_kind_of_column(self):
        for number, holds in enumerate(["integer", "text", "boolean", "counter", "letters"]):
            self.assertEqual(write_act(("column", A, "a", holds)), [1] + IN_A + [1, 97, number])
        self.assertEqual(write_act(("column", A, "a", ("refer", B))), [1] + IN_A + [1, 97, 5] + IN_B)


class Changes(unittest.TestCase):
    def test_an_empty_change(self):
        self.assertEqual(write_change(Change(0, 1, (0,), None, (), ((), (), (), ()))), [0, 1, 1, 0, 0, 0] + [1, 0] * 4)

    def test_the_header(self):
        publics = (revoke(None), revoke(A), SEAL, grant(3, ((True, False, False), NONE, ALL, (False, True, True))))
        change = Change(2, 300, (1, 128, 299), B, publics, (None,) * 4)
        rights = [1, 0, 0, 0, 0, 0, 1, 1, 1, 0, 1, 1]
        self.assertEqual(write_change(change), [2, 172, 2, 3, 1, 128, 1, 171, 2, 1] + IN_B
                         + [4, 1, 0, 1, 1] + IN_A + [2, 0, 3] + rights + [0] * 4)

    def test_unknown_and_empty_parts(self):
        start = [0, 1, 1, 0, 0, 0]
        for parts, data in [((None,) * 4, [0] * 4), (((), None, (), None), [1, 0, 0, 1, 0, 0]),
                            ((None, (("row", A), ("undo", (0, 1))), (), None),
                             [0, 1, 2, 3] + IN_A + [10, 0, 1, 1, 0, 0])]:
            self.assertEqual(write_change(Change(0, 1, (0,), None, (), parts)), start + data)


class Stores(unittest.TestCase):
    KEPT = Kept([(A, ("row", B)), (B, ("table", "t"))], [((A, B), -300)], [((A, C), [((1, 2, 3, 4), "a"), ((0, 1, 0, 0),
                                                                                                           "\n")])])
    BYTES = ([2] + IN_A + [3] + IN_B + IN_B + [0, 1, 116] + [1] + IN_A + IN_B + [1, 172, 2]
             + [1] + IN_A + IN_C + [2, 1, 2, 3, 4, 97, 0, 1, 0, 0, 10])

    def test_what_is_kept(self):
        self.assertEqual(write_kept(Kept([], [], [])), [0, 0, 0])
        self.assertEqual(write_kept(self.KEPT), self.BYTES)

    def test_a_sum_beyond_all_bounds(self):
        for total in [10 ** 41, -10 ** 41]:
            self.assertEqual(write_kept(Kept([], [((A, B), total)], [])),
                             [0, 1] + IN_A + IN_B + write_integer(total) + [0])

    def test_capabilities(self):
        self.assertEqual(write_capability((A, None, 3, EVERYTHING)), IN_A + [0, 3] + [1] * 12)
        self.assertEqual(write_capability((B, C, 0, (NONE, NONE, NONE, (False, True, False)))),
                         IN_B + [1] + IN_C + [0] + [0] * 10 + [1, 0])

    def test_an_empty_store(self):
        self.assertEqual(write_store(Store(1)), [1, 0, 0] + [1, 0, 0, 0] * 4 + [0])
        self.assertEqual(write_store(Store(3)), [3, 0, 0, 0, 0] + [1, 0, 0, 0] * 4 + [0, 0, 0])

    def test_a_store(self):
        store = Store(2)
        store.cut = [300, 0]
        store.capabilities = [(A, None, 1, EVERYTHING), (B, A, 0, EVERYTHING)]
        store.kept = [None, self.KEPT, None, Kept([], [], [])]
        make(store, 0)
        make(store, 0)
        data = [2, 172, 2, 0, 2] + write_capability(store.capabilities[0]) + write_capability(store.capabilities[1])
        data += [0, 1] + self.BYTES + [0, 1, 0, 0, 0] + [2]
        data += write_change(store.changes[0][0]) + write_change(store.changes[0][1]) + [0]
        self.assertEqual(write_store(store), data)

    def test_nothing_changes(self):
        store = Store(2)
        store.kept[0] = self.KEPT
        make(store, 0, [("unique", A, (B,))])
        before = (store.data(), self.KEPT.data())
        write_store(store).clear()
        write_kept(self.KEPT).append(1)
        self.assertEqual((store.data(), self.KEPT.data()), before)


class Second:
    """A second reading of point 96: what a thing is made up of is told by a description."""

    SPOT = ("number",) * 3
    ACTS = {"table": ("string",), "column": (SPOT, "string", "holds"), "unique": (SPOT, [SPOT]), "row": (SPOT,),
            "drop": (SPOT,), "put": (SPOT, SPOT, "value"), "refer": (SPOT, SPOT, {"some": SPOT}),
            "add": (SPOT, SPOT, "integer"), "insert": (SPOT, SPOT, {"some": SPOT + ("number",)}, "string"),
            "remove": (SPOT + ("number",),), "undo": (("number", "number"),)}
    RIGHTS = (("number",) * 3,) * 4
    CAPABILITY = {"some": SPOT}
    CHANGE = (("number", "number", ["number"], CAPABILITY, ["public"]), ({"some": ["act"]},) * 4)
    KEPT = ([(SPOT, "act")], [((SPOT, SPOT), "integer")], [((SPOT, SPOT), [(SPOT + ("number",), "character")])])

    def write(self, form, thing):
        if isinstance(form, tuple):
            assert len(form) == len(thing), (form, thing)
            return [byte for part, inner in zip(form, thing) for byte in self.write(part, inner)]
        if isinstance(form, list):
            return self.number(len(thing)) + [byte for inner in thing for byte in self.write(form[0], inner)]
        if isinstance(form, dict):
            return [0] if thing is None else [1] + self.write(form["some"], thing)
        return getattr(self, form)(thing)

    def number(self, number):
        bits = f"{int(number):b}"
        bits = "0" * (-len(bits) % 7) + bits
        parts = [int(bits[place:place + 7], 2) for place in range(0, len(bits), 7)][::-1]
        return [part + 128 for part in parts[:-1]] + parts[-1:]

    def integer(self, number):
        return [int(number < 0)] + self.number(abs(number))

    def character(self, character):
        return self.number(ord(character))

    def string(self, text):
        return self.write(["character"], text)

    def value(self, value):
        return {"NoneType": lambda: [0], "bool": lambda: [1, int(value)], "int": lambda: [2] + self.integer(value),
                "str": lambda: [3] + self.string(value)}[type(value).__name__]()

    def holds(self, holds):
        if isinstance(holds, tuple):
            return [5] + self.write(self.SPOT, holds[1])
        return [["integer", "text", "boolean", "counter", "letters"].index(holds)]

    def act(self, act):
        return [list(self.ACTS).index(act[0])] + self.write(self.ACTS[act[0]], act[1:])

    def public(self, act):
        forms = {"grant": ("number", self.RIGHTS), "revoke": (self.CAPABILITY,), "seal": ()}
        return [list(forms).index(act[0])] + self.write(forms[act[0]], act[1:])

    def change(self, change):
        return self.write(self.CHANGE, (change.header(), change.parts))

    def kept(self, kept):
        return self.write(self.KEPT, kept.data())

    def store(self, store):
        entries = [(self.SPOT, self.CAPABILITY, "number", self.RIGHTS)]
        data = self.write((["number"], entries, ({"some": "kept"},) * 4), (store.cut, store.capabilities, store.kept))
        return data + [byte for changes in store.changes for byte in self.write(["change"], changes)]


class Random(unittest.TestCase):
    def test_random_stores(self):
        second = Second()
        for seed in range(25):
            store = random_world(random.Random(96 + seed), 3, 20).store
            for one in [store] + [cut_at(store, seal) for seal in allowed_seals(store, verdicts(store))]:
                data = write_store(one)
                self.assertEqual(data, second.store(one))
                self.assertTrue(all(type(byte) is int and 0 <= byte < 256 for byte in data))


if __name__ == "__main__":
    unittest.main()
