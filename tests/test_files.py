"""Point 101: files."""

import random
import unittest

from kithbase.files import File


def file_of(lasting, pending=()):
    """Returns a file with lasting bytes, behind which others are pending."""
    found = File()
    found.write(lasting, None)
    found.flush(None)
    found.write(list(pending), None)
    return found


class Files(unittest.TestCase):
    def test_an_empty_file(self):
        self.assertEqual((File().content(), File().pending()), ([], 0))

    def test_writing(self):
        one = File()
        self.assertEqual(one.write([1, 2], None), 2)
        self.assertEqual(one.write([], None), 0)
        self.assertEqual(one.write([255, 0], 9), 2)
        self.assertEqual((one.content(), one.pending()), ([1, 2, 255, 0], 4))

    def test_writing_that_is_cut_short(self):
        one = File()
        self.assertEqual(one.write([1, 2, 3], 2), 2)
        self.assertEqual((one.content(), one.pending()), ([1, 2], 2))
        self.assertEqual(one.write([7, 8], 0), 0)
        self.assertEqual(one.write([7, 8], 2), 2)
        self.assertEqual(one.content(), [1, 2, 7, 8])

    def test_shortening(self):
        one = file_of([1, 2, 3, 4])
        self.assertEqual(one.shorten(3, None), 1)
        self.assertEqual((one.content(), one.pending()), ([1, 2, 3], 1))
        self.assertEqual(one.shorten(1, 5), 1)
        self.assertEqual(one.shorten(0, 1), 1)
        self.assertEqual((one.content(), one.pending()), ([], 3))

    def test_shortening_beyond_the_length(self):
        one = file_of([1, 2])
        self.assertEqual(one.shorten(2, None), 1)
        self.assertEqual(one.shorten(9, 1), 1)
        self.assertEqual((one.content(), one.pending()), ([1, 2], 2))

    def test_without_a_step(self):
        one = file_of([1, 2], [3])
        self.assertEqual((one.shorten(0, 0), one.flush(0), one.write([4], 0)), (0, 0, 0))
        self.assertEqual((one.content(), one.pending()), ([1, 2, 3], 1))

    def test_flushing(self):
        one = file_of([1], [2, 3])
        one.shorten(2, None)
        self.assertEqual(one.flush(1), 1)
        self.assertEqual((one.content(), one.pending()), ([1, 2], 0))
        self.assertEqual(one.flush(None), 1)
        one.lose(0)
        self.assertEqual(one.content(), [1, 2])


class Losing(unittest.TestCase):
    def test_none_some_and_all(self):
        for many, left in [(0, [1, 2]), (1, [1, 2, 3]), (2, [1, 2, 3, 4]), (3, [1, 2, 3, 4]), (99, [1, 2, 3, 4])]:
            one = file_of([1, 2], [3, 4])
            one.lose(many)
            self.assertEqual((one.content(), one.pending()), (left, 0))
            one.lose(0)
            self.assertEqual(one.content(), left)

    def test_truncations_are_steps(self):
        for many, left in enumerate([[1, 2], [1, 2, 3], [1], [1, 4], [1, 4], [1, 4, 5]]):
            one = file_of([1, 2], [3])
            one.shorten(1, None)
            one.write([4], None)
            one.shorten(7, None)
            one.write([5], None)
            self.assertEqual(one.pending(), 5)
            one.lose(many)
            self.assertEqual(one.content(), left)

    def test_nothing_is_pending(self):
        one = file_of([1, 2])
        one.lose(5)
        self.assertEqual(one.content(), [1, 2])
        two = File()
        two.lose(0)
        self.assertEqual(two.content(), [])

    def test_nothing_is_shared(self):
        data = [1, 2]
        one = File()
        one.write(data, None)
        data.append(9)
        one.content().clear()
        self.assertEqual((one.content(), data), ([1, 2], [1, 2, 9]))
        one.flush(None)
        one.content().append(3)
        self.assertEqual((one.content(), File().content()), ([1, 2], []))


class Plain:
    """A second reading: a file remembers what it contained after each step."""

    def __init__(self):
        self.states = [[]]

    def write(self, data, steps):
        data = data if steps is None else data[:steps]
        for byte in data:
            self.states.append(self.states[-1] + [byte])
        return len(data)

    def shorten(self, size, steps):
        if steps == 0:
            return 0
        self.states.append(self.states[-1][:size])
        return 1

    def flush(self, steps):
        if steps == 0:
            return 0
        self.states = self.states[-1:]
        return 1

    def lose(self, steps):
        self.states = [self.states[min(steps, len(self.states) - 1)]]

    def content(self):
        return self.states[-1]

    def pending(self):
        return len(self.states) - 1


class Random(unittest.TestCase):
    def test_random_steps(self):
        chance = random.Random(101)
        one, plain = File(), Plain()
        for turn in range(3000):
            steps = chance.choice([None, 0, 1, 3, 9])
            data = [chance.randrange(256) for k in range(chance.randrange(6))]
            word, arguments = chance.choice([("write", (data, steps))] * 6 + [("shorten",
                                                                               (chance.randrange(20), steps)),
                                            ("flush", (steps,)), ("lose", (chance.randrange(12),))])
            self.assertEqual(getattr(one, word)(*arguments), getattr(plain, word)(*arguments))
            self.assertEqual((one.content(), one.pending()), (plain.content(), plain.pending()))


if __name__ == "__main__":
    unittest.main()
