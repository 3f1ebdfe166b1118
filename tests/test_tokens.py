"""Points 52, 53 and 59: the tokens of questions, and the characters that are refused."""

import random
import unittest

from kithbase.errors import QuestionError, RefusedText
from kithbase.tokens import KEYWORDS, tokenize, write_token

WORDS = ("select distinct from where group by having order limit as join left on union all except intersect and or not "
         "is null true false in exists case when then else end count sum min max mod desc").split()
SIGNS = ["(", ")", ",", ".", "+", "-", "*", "/", "=", "<>", "<", "<=", ">", ">=", "||"]


def short(text):
    return [(kind, told) for kind, told, position in tokenize(text)]


class Tokens(unittest.TestCase):
    def refused(self, text, position):
        with self.assertRaises(RefusedText) as caught:
            tokenize(text)
        self.assertEqual(caught.exception.position, position, text)

    def test_keywords(self):
        self.assertEqual(KEYWORDS, tuple(WORDS))
        for word in WORDS:
            self.assertEqual(tokenize(word), [("keyword", word, 0)])

    def test_words_that_begin_with_a_keyword(self):
        for word in WORDS:
            for name in (word + "s", word + "_", word + "1"):
                if name not in WORDS:
                    self.assertEqual(tokenize(name), [("name", name, 0)])

    def test_names(self):
        for name in ("a", "s0_tasks", "z_9", "a__", "id", "asc", "q" * 300):
            self.assertEqual(tokenize(name), [("name", name, 0)])

    def test_capitals_and_a_low_line(self):
        self.refused("Select", 0)
        self.refused("sElect", 1)
        self.refused("_a", 0)
        self.refused("a _", 2)

    def test_nothing(self):
        for text in ("", " ", "\n", "  \n \n"):
            self.assertEqual(tokenize(text), [])

    def test_blanks_and_newlines(self):
        self.assertEqual(tokenize(" a\n b"), [("name", "a", 1), ("name", "b", 4)])

    def test_other_characters(self):
        for character in "\t\r\f\v" + chr(37) + "!\"#&:;?@[\\]^_`{}~|A" + chr(0) + chr(160) + chr(233) + chr(178):
            self.refused(character, 0)
            self.refused("a " + character, 2)
            self.refused("(" + character, 1)

    def test_signs(self):
        for sign in SIGNS:
            self.assertEqual(tokenize(sign), [("sign", sign, 0)])

    def test_each_two_signs(self):
        for first in SIGNS:
            for second in SIGNS:
                self.assertEqual(short(first + " " + second), [("sign", first), ("sign", second)])
                if first + second not in SIGNS and first + second[:1] not in SIGNS:
                    self.assertEqual(short(first + second), [("sign", first), ("sign", second)])

    def test_the_longer_sign(self):
        self.assertEqual(short("<>"), [("sign", "<>")])
        self.assertEqual(short("< >"), [("sign", "<"), ("sign", ">")])
        self.assertEqual(short("<="), [("sign", "<=")])
        self.assertEqual(short("< ="), [("sign", "<"), ("sign", "=")])
        self.assertEqual(short("<=>="), [("sign", "<="), ("sign", ">=")])
        self.assertEqual(short("<>="), [("sign", "<>"), ("sign", "=")])
        self.assertEqual(short("><"), [("sign", ">"), ("sign", "<")])
        self.assertEqual(short("=<="), [("sign", "="), ("sign", "<=")])
        self.assertEqual(short("||||"), [("sign", "||")] * 2)

    def test_a_single_bar(self):
        self.refused("a | b", 2)
        self.refused("a ||| b", 4)
        self.refused("|", 0)

    def test_integers(self):
        for text in ("0", "7", "007", "10", "0" * 30, "9" * 30, "0" * 29 + "5"):
            self.assertEqual(tokenize(text), [("integer", int(text), 0)])

    def test_long_integers(self):
        self.refused("1" * 31, 0)
        self.refused("a " + "0" * 31 + " b", 2)
        self.refused("a" + " " + "0" * 500, 2)
        self.assertEqual(short("1" * 30 + " 1"), [("integer", int("1" * 30)), ("integer", 1)])

    def test_a_word_directly_behind_an_integer(self):
        self.assertEqual(tokenize("12ab"), [("integer", 12, 0), ("name", "ab", 2)])
        self.assertEqual(tokenize("1or2"), [("integer", 1, 0), ("name", "or2", 1)])
        self.assertEqual(short("1mod 2"), [("integer", 1), ("keyword", "mod"), ("integer", 2)])
        self.assertEqual(short("1.5"), [("integer", 1), ("sign", "."), ("integer", 5)])

    def test_parameters(self):
        for text, number in (("$0", 0), ("$1", 1), ("$9", 9), ("$00", 0), ("$07", 7), ("$12", 12), ("$99", 99)):
            self.assertEqual(tokenize(text), [("parameter", number, 0)])
        self.assertEqual(tokenize("$1a"), [("parameter", 1, 0), ("name", "a", 2)])
        self.assertEqual(tokenize("$1$2"), [("parameter", 1, 0), ("parameter", 2, 2)])
        self.assertEqual(short("$12 3"), [("parameter", 12), ("integer", 3)])

    def test_refused_parameters(self):
        for text in ("$", "$a", "$ 1", "$$1", "$123", "$000", "$'a'"):
            self.refused(text, 0)
            self.refused("a " + text, 2)
        self.refused("$1 $", 3)

    def test_texts(self):
        for text, told in (("''", ""), ("'a'", "a"), ("''''", "'"), ("'it''s'", "it's"), ("''''''", "''"),
                           ("' a\n b '", " a\n b "), ("'select'", "select"), ("'$1'", "$1"), ("'A|#'", "A|#"),
                           ("'\t" + chr(37) + chr(233) + "'", "\t" + chr(37) + chr(233))):
            self.assertEqual(tokenize(text), [("text", told, 0)])

    def test_texts_beside_others(self):
        self.assertEqual(tokenize("'a' 'b'"), [("text", "a", 0), ("text", "b", 4)])
        self.assertEqual(tokenize("a'b'c"), [("name", "a", 0), ("text", "b", 1), ("name", "c", 4)])
        self.assertEqual(tokenize("1'b'"), [("integer", 1, 0), ("text", "b", 1)])
        self.assertEqual(tokenize("'''a''' b"), [("text", "'a'", 0), ("name", "b", 8)])

    def test_texts_without_an_end(self):
        for text in ("'", "'a", "'a''", "'''", "'a''''", "'a' 'b", "'a\n"):
            self.refused(text, 4 if text == "'a' 'b" else 0)
        self.refused("a = 'b", 4)

    def test_long_texts(self):
        self.assertEqual(tokenize("'" + "x" * 2000 + "'"), [("text", "x" * 2000, 0)])
        self.assertEqual(tokenize("'" + "''" * 2000 + "'"), [("text", "'" * 2000, 0)])
        self.refused("'" + "x" * 2001 + "'", 0)
        self.refused("a '" + "''" * 2001 + "' |", 2)
        self.refused("a '" + "''" + "x" * 2000 + "'", 2)

    def test_the_first_place_is_told(self):
        self.refused("| '", 0)
        self.refused("a ' |", 2)
        self.refused("$ '", 0)
        self.refused("1 " + "2" * 31 + " |", 2)

    def test_a_question_may_have_any_length(self):
        self.assertEqual(len(tokenize("ab, " * 20000)), 40000)

    def test_the_error(self):
        with self.assertRaises(QuestionError):
            tokenize("|")


class Writing(unittest.TestCase):
    def test_each_kind(self):
        for token, text in ((("keyword", "select", 0), "select"), (("name", "abc", 5), "abc"), (("integer", 0, 0), "0"),
                            (("integer", 10 ** 29, 2), "1" + "0" * 29), (("text", "", 0), "''"),
                            (("text", "it's", 0), "'it''s'"), (("text", "''", 0), "''''''"), (("text", "7", 0), "'7'"),
                            (("parameter", 7, 0), "$7"), (("parameter", 0, 0), "$0"), (("parameter", 99, 0), "$99"),
                            (("sign", "||", 0), "||"), (("sign", "<", 0), "<")):
            self.assertEqual(write_token(token), text)

    def test_each_is_read_again(self):
        tokens = [("keyword", word, 0) for word in WORDS] + [("sign", sign, 0) for sign in SIGNS]
        tokens.extend([("parameter", number, 0) for number in range(100)])
        tokens.extend([("text", told, 0) for told in ("", "'", "a\nb", "'" * 2000, "'a'", "$1", "select", " ")])
        tokens.extend([("integer", 10 ** k, 0) for k in range(30)] + [("name", "x" * k, 0) for k in range(1, 40)])
        for token in tokens:
            self.assertEqual(tokenize(write_token(token)), [token])

    def test_random_tokens(self):
        chance = random.Random(52)
        for turn in range(300):
            tokens = [self.some_token(chance) for k in range(12)]
            read = tokenize(" ".join([write_token((kind, told, 0)) for kind, told in tokens]))
            self.assertEqual([(kind, told) for kind, told, position in read], tokens)

    def some_token(self, chance):
        return chance.choice([("keyword", chance.choice(WORDS)), ("sign", chance.choice(SIGNS)), ("name", "x1_y"),
                              ("integer", chance.randrange(10 ** 30)), ("parameter", chance.randrange(100)),
                              ("text", "".join(chance.choices("'a \n<$1|", k=chance.randrange(9))))])


if __name__ == "__main__":
    unittest.main()
