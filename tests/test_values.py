"""Points 70 to 72: the order of values, arithmetic, comparisons and the three values of truth."""

import itertools
import unittest

from kithbase.values import arithmetic, compare, conjunction, disjunction, negation, row_key, same, value_key

GREAT = 10 ** 40
ORDERED = [None, False, True, -10 ** 45, -GREAT, -2, -1, 0, 1, 2, 10, GREAT - 1, GREAT, 10 ** 45, "", "\n", " ", "'",
           "0", "10", "2", "A", "a", "aa", "ab", "b", "~"]
TRUTHS = (True, False, None)


class Order(unittest.TestCase):
    def test_values(self):
        for (place, first), (other, second) in itertools.product(enumerate(ORDERED), repeat=2):
            self.assertEqual(value_key(first) < value_key(second), place < other, (first, second))
            self.assertEqual(value_key(first) == value_key(second), place == other, (first, second))
            self.assertIs(same(first, second), place == other, (first, second))

    def test_keys_are_tuples_of_integers_and_strings(self):
        for key in [value_key(value) for value in ORDERED] + [row_key(ORDERED)]:
            self.assertIsInstance(key, tuple)
            for part in key:
                self.assertIn(type(part), (int, str))

    def test_rows(self):
        some = [None, False, True, 0, 1, "", "a"]
        rows = list(itertools.product(some, repeat=2))
        for (place, first), (other, second) in itertools.product(enumerate(rows), repeat=2):
            self.assertEqual(row_key(first) < row_key(second), place < other, (first, second))
            self.assertEqual(row_key(first) == row_key(second), place == other, (first, second))

    def test_rows_that_differ_in_a_later_column(self):
        self.assertLess(row_key((1, "b", None)), row_key((1, "b", False)))
        self.assertLess(row_key((None, 5, "z")), row_key((None, 6, "a")))
        self.assertLess(row_key((1, 2, 3, True)), row_key((1, 2, 3, 0)))
        self.assertEqual(row_key(()), row_key([]))

    def test_a_boolean_is_not_an_integer(self):
        for boolean, integer in ((True, 1), (False, 0)):
            self.assertIs(same(boolean, integer), False)
            self.assertIs(same(integer, boolean), False)
            self.assertNotEqual(value_key(boolean), value_key(integer))
            self.assertNotEqual(row_key((boolean, "a")), row_key((integer, "a")))
        self.assertIs(same(True, True), True)
        self.assertIs(same(1, 1), True)

    def test_what_looks_alike(self):
        self.assertIs(same(1, "1"), False)
        self.assertIs(same(None, ""), False)
        self.assertIs(same(None, 0), False)
        self.assertIs(same(None, False), False)
        self.assertIs(same(None, None), True)

    def test_rows_as_lists(self):
        self.assertEqual(row_key([1, "a", None]), row_key((1, "a", None)))


class Arithmetic(unittest.TestCase):
    def test_sums_and_products(self):
        for first, second in itertools.product(range(-7, 8), repeat=2):
            self.assertEqual(arithmetic("+", first, second), first + second)
            self.assertEqual(arithmetic("-", first, second), first - second)
            self.assertEqual(arithmetic("*", first, second), first * second)

    def test_signs_of_quotients_and_remainders(self):
        for first, second, quotient, rest in ((7, 2, 3, 1), (-7, 2, -3, -1), (7, -2, -3, 1), (-7, -2, 3, -1),
                                              (6, 3, 2, 0), (-6, 3, -2, 0), (6, -3, -2, 0), (-6, -3, 2, 0),
                                              (0, 5, 0, 0), (0, -5, 0, 0), (1, 2, 0, 1), (-1, 2, 0, -1), (1, -2, 0, 1),
                                              (-1, -2, 0, -1), (5, 1, 5, 0)):
            self.assertEqual(arithmetic("/", first, second), quotient, (first, second))
            self.assertEqual(arithmetic("mod", first, second), rest, (first, second))

    def test_quotient_and_remainder_belong_together(self):
        numbers = [-10 ** 39 - 7, -100, -13, -3, -1, 0, 1, 4, 12, 10 ** 39 + 11]
        for first, second in itertools.product(numbers, repeat=2):
            if second != 0:
                quotient, rest = arithmetic("/", first, second), arithmetic("mod", first, second)
                self.assertEqual(quotient * second + rest, first)
                self.assertLess(abs(rest), abs(second))
                self.assertTrue(rest == 0 or (rest < 0) == (first < 0))

    def test_the_divisor_zero(self):
        for first in (-5, 0, 5, None, GREAT):
            self.assertIsNone(arithmetic("/", first, 0))
            self.assertIsNone(arithmetic("mod", first, 0))

    def test_none_on_each_side(self):
        for operator in ("+", "-", "*", "/", "mod"):
            for first, second in ((None, 3), (3, None), (None, None), (None, 0), (0, None)):
                self.assertIsNone(arithmetic(operator, first, second))
        for first, second in ((None, "a"), ("a", None), (None, None), (None, "")):
            self.assertIsNone(arithmetic("||", first, second))

    def test_great_results(self):
        most = GREAT - 1
        self.assertEqual(arithmetic("+", most - 1, 1), most)
        self.assertIsNone(arithmetic("+", most, 1))
        self.assertEqual(arithmetic("+", -most + 1, -1), -most)
        self.assertIsNone(arithmetic("+", -most, -1))
        self.assertEqual(arithmetic("-", -most + 1, 1), -most)
        self.assertIsNone(arithmetic("-", -most, 1))
        self.assertEqual(arithmetic("-", most - 1, -1), most)
        self.assertIsNone(arithmetic("-", most, -1))
        self.assertEqual(arithmetic("*", 10 ** 20, 10 ** 20 - 1), GREAT - 10 ** 20)
        self.assertIsNone(arithmetic("*", 10 ** 20, 10 ** 20))
        self.assertIsNone(arithmetic("*", 10 ** 20, -10 ** 20))
        self.assertEqual(arithmetic("*", 1, -most), -most)

    def test_great_operands(self):
        self.assertEqual(arithmetic("-", GREAT, 1), GREAT - 1)
        self.assertEqual(arithmetic("+", -GREAT, 1), 1 - GREAT)
        self.assertIsNone(arithmetic("-", 0, GREAT))
        self.assertIsNone(arithmetic("/", GREAT, 1))
        self.assertIsNone(arithmetic("/", GREAT, -1))
        self.assertEqual(arithmetic("/", GREAT, 2), GREAT // 2)
        self.assertEqual(arithmetic("mod", GREAT + 7, GREAT), 7)
        self.assertIsNone(arithmetic("mod", GREAT + 7, 10 ** 41))
        self.assertEqual(arithmetic("/", 10 ** 90 + 1, 10 ** 60), 10 ** 30)

    def test_texts(self):
        self.assertEqual(arithmetic("||", "ab", "c"), "abc")
        self.assertEqual(arithmetic("||", "", ""), "")
        self.assertEqual(arithmetic("||", "a" * 1999, "b"), "a" * 1999 + "b")
        self.assertEqual(arithmetic("||", "", "b" * 2000), "b" * 2000)
        self.assertIsNone(arithmetic("||", "a" * 2000, "b"))
        self.assertIsNone(arithmetic("||", "a" * 1000, "b" * 1001))
        self.assertIsNone(arithmetic("||", "a" * 2001, ""))


class Truth(unittest.TestCase):
    def test_comparisons(self):
        values = [value for value in ORDERED if value is not None]
        for (place, first), (other, second) in itertools.product(enumerate(values), repeat=2):
            told = [compare(operator, first, second) for operator in ("=", "<>", "<", "<=", ">", ">=")]
            expected = [place == other, place != other, place < other, place <= other, place > other, place >= other]
            for one, two in zip(told, expected):
                self.assertIs(one, two, (first, second))

    def test_comparisons_of_none(self):
        for operator in ("=", "<>", "<", "<=", ">", ">="):
            for first, second in ((None, None), (None, 1), ("a", None), (None, False), (True, None)):
                self.assertIsNone(compare(operator, first, second))

    def test_not(self):
        self.assertIs(negation(True), False)
        self.assertIs(negation(False), True)
        self.assertIsNone(negation(None))

    def test_and(self):
        expected = {(True, True): True, (True, False): False, (True, None): None, (False, True): False,
                    (False, False): False, (False, None): False, (None, True): None, (None, False): False,
                    (None, None): None}
        for first, second in itertools.product(TRUTHS, repeat=2):
            self.assertIs(conjunction(first, second), expected[first, second])

    def test_or(self):
        expected = {(True, True): True, (True, False): True, (True, None): True, (False, True): True,
                    (False, False): False, (False, None): None, (None, True): True, (None, False): None,
                    (None, None): None}
        for first, second in itertools.product(TRUTHS, repeat=2):
            self.assertIs(disjunction(first, second), expected[first, second])


if __name__ == "__main__":
    unittest.main()
