"""Points 8 to 10: changes, their past and their order."""

import unittest

from kithbase.changes import Change, in_order, in_past, order_key

PUBLICS = [("grant", 1, ((True, True, True),) * 4), ("revoke", None), ("seal",)]
TABLE = ("table", "t")
ROW = ("row", (0, 1, 0))


def plain(author, number, heard):
    return Change(author, number, heard, None, (), ((), (), (), ()))


class Changes(unittest.TestCase):
    def test_attributes_are_kept(self):
        change = Change(1, 3, (4, 2), (0, 1, 0), (("seal",),), ((TABLE, ROW), (), None, (ROW,)))
        self.assertEqual((change.author, change.number, change.heard), (1, 3, (4, 2)))
        self.assertEqual(change.capability, (0, 1, 0))
        self.assertEqual(change.publics, (("seal",),))
        self.assertEqual(change.parts, ((TABLE, ROW), (), None, (ROW,)))
        self.assertEqual(change.name(), (1, 3))
        self.assertEqual(change.header(), (1, 3, (4, 2), (0, 1, 0), (("seal",),)))

    def test_lists_are_kept_as_tuples(self):
        change = Change(0, 1, [0, 0], None, list(PUBLICS), [[TABLE, ROW], None, [], None])
        self.assertEqual(change.heard, (0, 0))
        self.assertEqual(change.publics, tuple(PUBLICS))
        self.assertEqual(change.parts, ((TABLE, ROW), None, (), None))
        for kept in [change.heard, change.publics, change.parts, change.parts[0], change.parts[2], change.header()]:
            self.assertIs(type(kept), tuple)

    def test_later_changes_to_the_lists_have_no_effect(self):
        heard, publics, part = [0, 0], list(PUBLICS), [TABLE]
        parts = [part, None, part, []]
        change = Change(0, 1, heard, None, publics, parts)
        before = change.header() + (change.parts,)
        heard[0] = 9
        publics.clear()
        part.append(ROW)
        parts[1] = []
        parts[3].append(ROW)
        self.assertEqual(change.header() + (change.parts,), before)

    def test_arguments_stay_as_they_were(self):
        heard, publics, parts = [0, 0], list(PUBLICS), [[TABLE], None, (), [ROW]]
        Change(0, 1, heard, None, publics, parts)
        self.assertEqual((heard, publics, parts), ([0, 0], PUBLICS, [[TABLE], None, (), [ROW]]))

    def test_with_parts(self):
        change = Change(1, 2, [3, 1], (0, 1, 0), PUBLICS, [[TABLE], (), (), ()])
        part = [ROW]
        other = change.with_parts([None, part, [], None])
        part.append(TABLE)
        self.assertIsInstance(other, Change)
        self.assertIsNot(other, change)
        self.assertEqual(other.header(), change.header())
        self.assertEqual(other.parts, (None, (ROW,), (), None))
        self.assertEqual(change.parts, ((TABLE,), (), (), ()))


class Past(unittest.TestCase):
    def test_what_was_heard_is_in_the_past(self):
        change = plain(1, 3, (2, 2, 0))
        for name in [(0, 1), (0, 2), (1, 1), (1, 2)]:
            self.assertIs(in_past(name, change), True, name)
        for name in [(0, 3), (1, 3), (1, 4), (2, 1)]:
            self.assertIs(in_past(name, change), False, name)

    def test_authors_that_are_no_member(self):
        change = plain(0, 4, (3, 3))
        for author in [-1, -2, -3, 2, 3, 10 ** 14]:
            self.assertIs(in_past((author, 1), change), False, author)

    def test_numbers_below_one(self):
        change = plain(0, 4, (3, 3))
        for number in [0, -1, -3, -10 ** 14]:
            for author in [0, 1]:
                self.assertIs(in_past((author, number), change), False, number)

    def test_it_need_not_be_in_any_store(self):
        self.assertIs(in_past((1, 10 ** 14), plain(0, 1, (0, 10 ** 14))), True)


class Order(unittest.TestCase):
    def test_the_key(self):
        self.assertEqual(order_key(plain(2, 5, (3, 7, 4))), (14, 2, 5))
        self.assertEqual(order_key(plain(0, 1, (0,))), (0, 0, 1))

    def test_who_had_heard_fewer_comes_first(self):
        late, early = plain(0, 1, (0, 3, 0)), plain(2, 2, (0, 1, 1))
        self.assertEqual(in_order([late, early]), [early, late])

    def test_equal_sums_go_by_author(self):
        first, second, third = plain(0, 2, (1, 0, 1)), plain(1, 1, (1, 0, 1)), plain(2, 2, (1, 0, 1))
        for given in [[third, second, first], [second, third, first], [first, second, third]]:
            self.assertEqual(in_order(given), [first, second, third])

    def test_equal_sums_and_authors_go_by_number(self):
        first, second, third = plain(1, 2, (2, 1)), plain(1, 3, (1, 2)), plain(1, 10, (3, 0))
        self.assertEqual(in_order([third, second, first]), [first, second, third])

    def test_the_sum_goes_before_the_author_and_the_author_before_the_number(self):
        a, b, c = plain(1, 9, (0, 2)), plain(0, 2, (1, 2)), plain(1, 1, (3, 0))
        self.assertEqual(in_order([c, b, a]), [a, b, c])

    def test_the_result_is_new_and_the_argument_stays(self):
        late, early = plain(0, 2, (1, 0)), plain(0, 1, (0, 0))
        for given in [[late, early], [early, late], [early], []]:
            kept = list(given)
            result = in_order(given)
            self.assertEqual(given, kept)
            result.append(late)
            self.assertEqual(given, kept)
        self.assertEqual(in_order((late, early)), [early, late])


if __name__ == "__main__":
    unittest.main()
