"""Points 52 to 59: a text that is read as a tree, with as few parentheses as possible."""

import itertools
import random
import unittest

from grammar import RULES
from kithbase.errors import RefusedText
from kithbase.parser import parse
from kithbase.printer import write_question
from kithbase.tokens import tokenize, write_token
from oracle import Maker, some_sources
from test_refusals import deepest, grow

A, B, C = [("column", None, name) for name in "abc"]
BINARY = ["or", "and", "=", "<>", "<", "<=", ">", ">=", "+", "-", "||", "*", "/", "mod"]
S = ("select", False, ((A, None),), None, None, None, None)


def question(query, order=(), limit=None):
    return ("question", query, order, limit)


def select(*items, sources=None, where=None, group=None, having=None):
    return ("select", False, tuple([(item, None) for item in items]), sources, where, group, having)


def forms():
    """Returns a list of pairs of a name and a function that makes an expression around an operand or two."""
    found = []
    for operator in BINARY:
        found.append((operator + " left", lambda part, operator=operator: ("binary", operator, part, C)))
        found.append((operator + " right", lambda part, operator=operator: ("binary", operator, C, part)))
    found.append(("not", lambda part: ("not", part)))
    found.append(("negate", lambda part: ("negate", part)))
    for negated in (True, False):
        found.append(("is null", lambda part, negated=negated: ("is_null", part, negated)))
        found.append(("in list", lambda part, negated=negated: ("in_list", part, (A, B), negated)))
        found.append(("in query", lambda part, negated=negated: ("in_query", part, S, negated)))
        found.append(("item", lambda part, negated=negated: ("in_list", C, (A, part), negated)))
    found.append(("when", lambda part: ("case", part, A, B)))
    found.append(("then", lambda part: ("case", A, part, B)))
    found.append(("else", lambda part: ("case", A, B, part)))
    found.append(("aggregate", lambda part: ("aggregate", "sum", part)))
    found.append(("scalar", lambda part: ("scalar", select(part))))
    found.append(("exists", lambda part: ("exists", select(part))))
    found.append(("list of a query", lambda part: ("in_query", A, select(part), False)))
    return found


class Checking(unittest.TestCase):
    def check(self, tree):
        """Checks that the text of the tree is read as it, and that each parenthesis is needed; returns the text."""
        text = write_question(tree)
        self.assertEqual(parse(text), tree, text)
        tokens = tokenize(text)
        opened = []
        for place, token in enumerate(tokens):
            if token[:2] == ("sign", "("):
                opened.append(place)
            if token[:2] == ("sign", ")"):
                left = [write_token(other) for k, other in enumerate(tokens) if k not in (opened[-1], place)]
                opened.pop()
                self.assertNotEqual(self.tree_or_none(" ".join(left)), tree, text)
        return text

    def tree_or_none(self, text):
        try:
            return parse(text)
        except RefusedText:
            return None


class Printing(Checking):
    def expression(self, tree):
        text = self.check(question(select(tree)))
        self.assertTrue(text.startswith("select "))
        return text[len("select "):]

    def test_each_two_forms(self):
        for (first, outer), (second, inner) in itertools.product(forms(), repeat=2):
            if (first, second) != ("aggregate", "aggregate"):
                self.expression(outer(inner(B)))

    def test_each_three_operators(self):
        words = ("or", "and", "=", "-", "*", "not", "negate", "is")
        some = [form for name, form in forms() if name.split()[0] in words]
        for one, two, three in itertools.product(some, repeat=3):
            self.expression(one(two(three(B))))

    def test_two_operands_with_operators(self):
        for one, two, three in itertools.product(BINARY, repeat=3):
            self.expression(("binary", one, ("binary", two, A, B), ("binary", three, B, C)))

    def test_texts(self):
        for text in ("a or b and not c", "(a or b) and c", "a - (b - c)", "a - b - c", "not (a and b)", "not not a",
                     "(not a) = b", "a = (not b)", "a = (b = c)", "a = b = c", "- (a + b)", "- a + b", "- - a",
                     "(a is null) + b", "a + b is null", "a is null is not null", "a = b is null", "a = (b is null)",
                     "a in (b) in (c)", "a in (b in (c))", "a in ((select a))", "a in (select a)",
                     "a not in (b or c, c)", "a * (b / c)", "a * b / c", "case when a or b then not c else - a end",
                     "count(*)", "sum(a + b)", "exists (select a)", "(select a)", "(select a) + b", "- (select a)",
                     "t.a || $12", "'it''s'", "null", "true", "false", "120", "''", "(a < b) || c", "(a is null) * b",
                     "a in ((select a) + b)"):
            self.assertEqual(self.expression(parse("select " + text)[1][2][0][0]), text)

    def test_queries(self):
        for text in ("select *", "select distinct *", "select a as x, b", "select distinct a", "select * from t",
                     "select a from t x", "select a from (select b) q", "select a from (select b union select c) q",
                     "select a from t join u on a = b",
                     "select a from t left join (select b) q on a or b join u x on c", "select a where b",
                     "select a from t where b group by a, t.b having c", "select a union select b",
                     "select a union all select b", "select a except select b intersect select c",
                     "select a except (select b intersect select c)",
                     "select a union all (select b union all select c)",
                     "select a union (select b union (select c union select a)) union select b", "select a order by 1",
                     "select a order by a desc, 2, b", "select a limit 0", "select a order by 7 desc limit 12",
                     "select a from t union select b from u order by 1 limit 2",
                     "select exists (select a union select b)", "select a in (select a union select b)",
                     "select (select a except select b)"):
            tree = parse(text)
            self.assertEqual(self.check(tree), text)

    def test_set_operators_on_both_sides(self):
        words = ("union all", "union", "except", "intersect")
        for one, two, three in itertools.product(words, repeat=3):
            tree = ("set", one, ("set", two, S, S), ("set", three, S, S))
            self.assertEqual(self.check(question(tree)), f"select a {two} select a {one} (select a {three} select a)")

    def test_parentheses_that_are_not_needed_go_away(self):
        for text, short in (("((select a))", "select a"), ("(select a) union (select b)", "select a union select b"),
                            ("(select a union select b) union select c", "select a union select b union select c"),
                            ("select ((a))", "select a"), ("select (a + b) - c", "select a + b - c"),
                            ("select (a * b) + (- c)", "select a * b + - c"),
                            ("select a from ((select b)) q", "select a from (select b) q"),
                            ("select exists ((select a))", "select exists (select a)"),
                            ("select ((select a))", "select (select a)"),
                            ("select a in ((b), (c))", "select a in (b, c)"),
                            ("select (a = b) and (not (c))", "select a = b and not c")):
            self.assertEqual(self.check(parse(text)), short)

    def test_texts_with_quotes_and_newlines(self):
        for told in ("'", "''", "a\nb", " ' \n", "select", "(", ")", "a ( b", "x" * 2000, "'" * 2000):
            self.expression(("literal", told))
            self.expression(("binary", "||", ("literal", told), ("literal", told)))

    def test_literals(self):
        for value in (None, True, False, 0, 1, 10 ** 30 - 1, ""):
            tree = parse(write_question(question(select(("literal", value)))))[1][2][0][0]
            self.assertEqual(tree, ("literal", value))
            self.assertIs(type(tree[1]), type(value))

    def test_keys(self):
        for order in ((("a", False),), ((1, True),), ((0, False), ("a", True), (10 ** 30 - 1, True), ("a", True))):
            for limit in (None, 0, 7):
                self.check(question(S, order, limit))

    def test_the_tree_stays_as_it_is(self):
        tree = parse("select a from t where b order by 1")
        before = repr(tree)
        self.assertEqual(write_question(tree), write_question(tree))
        self.assertEqual(repr(tree), before)


class Limits(Checking):
    def test_120_tokens_and_depth_12(self):
        for text in ("select a" + ", a" * 59, "select " + "a - (" * 12 + "a - b" + ")" * 12,
                     "select " + "- (a + " * 6 + "a" + ")" * 6, "select " + "not " * 12 + "a",
                     "select " + "(select " * 12 + "a" + ")" * 12):
            self.assertEqual(self.check(parse(text)), text)

    def test_100_deep(self):
        for form in [form for name, form in forms()]:
            tree = B
            for depth in range(100):
                tree = form(tree)
            self.assertGreater(len(write_question(question(select(tree)))), 100)
        query, right = S, S
        for depth in range(100):
            query = select(A, sources=("subquery", query, "q"))
            right = ("set", "union", S, right)
        self.assertEqual(write_question(question(query)).count("("), 100)
        self.assertEqual(write_question(question(right)).count("("), 99)


class Random(Checking):
    def test_random_questions(self):
        chance = random.Random(59)
        read = 0
        for turn in range(1500):
            tree = Maker(chance, some_sources(chance), [1, "x"]).question()
            text = write_question(tree)
            if len(tokenize(text)) <= 120 and sum([text.count(word) for word in ("(", "not ", "case", "- ")]) <= 12:
                self.check(tree)
                read += 1
        self.assertGreater(read, 800)

    def test_questions_of_the_grammar(self):
        chance = random.Random(60)
        self.assertIn("question", RULES)
        for turn in range(400):
            words = grow(chance, "question", chance.randrange(4, 40))
            if deepest(words) <= 12 and len(words) <= 120:
                tree = self.tree_or_none(" ".join(words))
                if tree is not None:
                    self.check(tree)


if __name__ == "__main__":
    unittest.main()
