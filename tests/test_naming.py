"""Point 7: names, spots, marks and their written form."""

import unittest

from kithbase.errors import InvalidArgument, InvalidName, KithbaseError, QuestionError, UnfitPacket
from kithbase.naming import format_name, parse_mark, parse_name, parse_spot

PARSERS = {2: parse_name, 3: parse_spot, 4: parse_mark}
MOST = 10 ** 15 - 1


class Naming(unittest.TestCase):
    def refused(self, text, parsers=(2, 3, 4)):
        for many in parsers:
            with self.assertRaises(InvalidName, msg=(many, text)):
                PARSERS[many](text)

    def test_examples_of_the_document(self):
        self.assertEqual(format_name((2, 15)), "2.15")
        self.assertEqual(format_name((2, 15, 0)), "2.15.0")
        self.assertEqual(format_name((2, 15, 0, 3)), "2.15.0.3")
        self.assertEqual(parse_name("2.15"), (2, 15))
        self.assertEqual(parse_spot("2.15.0"), (2, 15, 0))
        self.assertEqual(parse_mark("2.15.0.3"), (2, 15, 0, 3))

    def test_every_form_is_read_as_it_was_written(self):
        for parts in [(0, 1), (1, 1), (5, 10), (0, MOST), (MOST, 1), (MOST, MOST), (10, 100)]:
            for rest in [(), (0,), (1,), (MOST,), (0, 0), (1, 0), (0, 1), (MOST, MOST), (30, 20)]:
                name = parts + rest
                text = format_name(name)
                self.assertEqual(text, ".".join(str(part) for part in name))
                read = PARSERS[len(name)](text)
                self.assertEqual(read, name)
                self.assertIs(type(read), tuple)
                self.assertEqual({type(part) for part in read}, {int})

    def test_fifteen_digits_and_sixteen(self):
        fifteen = "9" * 15
        for many in PARSERS:
            for place in range(many):
                parts = ["1"] * many
                parts[place] = fifteen
                self.assertEqual(PARSERS[many](".".join(parts))[place], MOST)
                for long in ["1" * 16, "9" * 16, "1" + "0" * 15, "0" * 16, "1" * 40]:
                    parts[place] = long
                    self.refused(".".join(parts))

    def test_the_parts_zero_and_one(self):
        self.assertEqual(parse_name("0.1"), (0, 1))
        self.assertEqual(parse_spot("0.1.0"), (0, 1, 0))
        self.assertEqual(parse_mark("0.1.0.0"), (0, 1, 0, 0))
        self.assertEqual(parse_mark("1.1.1.1"), (1, 1, 1, 1))

    def test_the_number_of_a_change_is_at_least_one(self):
        for text in ["0.0", "1.0", "0.0.0", "1.0.1", "0.0.0.0", "1.0.1.1"]:
            self.refused(text)

    def test_leading_zeros(self):
        for many in PARSERS:
            for place in range(many):
                for part in ["00", "01", "007", "0" * 15, "000000000000001"]:
                    parts = ["1"] * many
                    parts[place] = part
                    self.refused(".".join(parts))

    def test_empty_parts(self):
        for text in ["", ".", "..", "...", "1.", ".1", "1..1", "1.1.", ".1.1", "1..1.1", "1.1..1", "1.1.1.", ".1.1.1",
                     ".1.", "1...1"]:
            self.refused(text)

    def test_too_many_parts_or_too_few(self):
        forms = ["1", "1.1", "1.1.1", "1.1.1.1", "1.1.1.1.1"]
        for text in forms:
            many = text.count(".") + 1
            self.refused(text, [parser for parser in PARSERS if parser != many])

    def test_other_characters_at_any_place(self):
        strange = [" ", "\n", "\t", "+", "-", "_", ",", "a", "x", "/", ":", "'", "\u00b2", "\u0663", "\u2460", "\uff11"]
        for text in ["1.1", "10.10", "1.1.1", "10.10.10", "1.1.1.1", "10.10.10.10"]:
            for place in range(len(text) + 1):
                for character in strange:
                    self.refused(text[:place] + character + text[place:])
                    self.refused(text[:place] + character + text[place + 1:])

    def test_other_ways_to_write_numbers(self):
        for text in ["-1.1", "1.-1", "+1.1", "1e1.1", "0x1.1", "1_0.1", " 1.1", "1.1 ", "1.1\n", "\n1.1", "1. 1",
                     "1.1.-1",
                     "1.1.1.-1", "(1, 1)", "1,1", "\u0661.\u0661"]:
            self.refused(text)

    def test_what_is_no_string(self):
        for text in [None, True, False, 0, 1, 11, (1, 1), (1, 1, 1), [1, 1], ["1", "1"], b"1.1", {}, ["1.1"]]:
            self.refused(text)

    def test_which_error_it_is(self):
        for parse in PARSERS.values():
            for text in ["", "x", None, 5]:
                with self.assertRaises(InvalidName) as caught:
                    parse(text)
                for kind in [InvalidArgument, KithbaseError, ValueError]:
                    self.assertIsInstance(caught.exception, kind)
                for kind in [QuestionError, UnfitPacket]:
                    self.assertNotIsInstance(caught.exception, kind)


if __name__ == "__main__":
    unittest.main()
