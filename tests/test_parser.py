"""Points 54 to 59: questions as trees, and where questions are refused."""

import itertools
import unittest

from kithbase.errors import RefusedText
from kithbase.parser import parse

LINES = [["or"], ["and"], ["=", "<>", "<", "<=", ">", ">="], ["+", "-", "||"], ["*", "/", "mod"]]
LINE_OF = {operator: line for line, operators in enumerate(LINES) for operator in operators}
A, B, C, D = [("column", None, name) for name in "abcd"]
ONE = ("literal", 1)


def select(*items, distinct=False, sources=None, where=None, group=None, having=None):
    return ("select", distinct, tuple([(item, None) for item in items]), sources, where, group, having)


def binary(operator, first, second):
    return ("binary", operator, first, second)


def expression(text):
    """Returns the tree of an expression."""
    tree = parse("select " + text)
    assert tree[0] == "question" and tree[2:] == ((), None), tree
    word, distinct, items, sources, where, group, having = tree[1]
    assert (word, distinct, sources, where, group, having) == ("select", False, None, None, None, None), tree
    assert len(items) == 1 and items[0][1] is None, tree
    return items[0][0]


def query(text):
    tree = parse(text)
    assert tree[0] == "question" and tree[2:] == ((), None), tree
    return tree[1]


S1, S2, S3 = [select(("literal", number)) for number in (1, 2, 3)]


class Refusing(unittest.TestCase):
    def refused(self, text, position):
        with self.assertRaises(RefusedText, msg=text) as caught:
            parse(text)
        self.assertEqual(caught.exception.position, position, text)

    def refused_at(self, text):
        """Checks that the text without `@` is refused where that stands."""
        self.refused(text.replace("@", ""), text.index("@"))


class Primaries(Refusing):
    def test_literals(self):
        for text, value in (("7", 7), ("007", 7), ("'it''s'", "it's"), ("''", ""), ("null", None), ("true", True),
                            ("false", False), ("9" * 30, 10 ** 30 - 1)):
            self.assertEqual(expression(text), ("literal", value))
            self.assertIs(type(expression(text)[1]), type(value))

    def test_parameters_and_columns(self):
        self.assertEqual(expression("$0"), ("parameter", 0))
        self.assertEqual(expression("$12"), ("parameter", 12))
        self.assertEqual(expression("a"), A)
        self.assertEqual(expression("s.a"), ("column", "s", "a"))
        self.assertEqual(expression("s . a"), ("column", "s", "a"))

    def test_aggregates(self):
        self.assertEqual(expression("count(*)"), ("count_all",))
        self.assertEqual(expression("count ( * )"), ("count_all",))
        for word in ("count", "sum", "min", "max"):
            self.assertEqual(expression(word + "(a or b)"), ("aggregate", word, binary("or", A, B)))
        self.assertEqual(expression("sum(count(*))"), ("aggregate", "sum", ("count_all",)))

    def test_queries(self):
        self.assertEqual(expression("exists (select 1)"), ("exists", S1))
        self.assertEqual(expression("exists ((select 1))"), ("exists", S1))
        self.assertEqual(expression("(select 1)"), ("scalar", S1))
        self.assertEqual(expression("((select 1))"), ("scalar", S1))
        self.assertEqual(expression("(((select 1)))"), ("scalar", S1))
        self.assertEqual(expression("(select 1 union (select 2))"), ("scalar", ("set", "union", S1, S2)))
        self.assertEqual(expression("exists ((select 1) union select 2)"), ("exists", ("set", "union", S1, S2)))

    def test_case(self):
        self.assertEqual(expression("case when a then b else c end"), ("case", A, B, C))
        told = expression("case when a or b then not c else d = a end + case when a then b else c end")
        self.assertEqual(told,
                         binary("+", ("case", binary("or", A, B), ("not", C), binary("=", D, A)), ("case", A, B, C)))

    def test_parentheses(self):
        for depth in range(1, 13):
            self.assertEqual(expression("(" * depth + "a" + ")" * depth), A)
        self.assertEqual(expression("(a + b) * c"), binary("*", binary("+", A, B), C))

    def test_refused(self):
        for text in ("select @", "select @)", "select (@", "select (@)", "select (a@", "select (a@,b)", "select a.@",
                     "select a.@1", "select a.@count", "select a.b@.c", "select count@", "select count @a",
                     "select count(@", "select count(@)", "select count(*@", "select count(*@, a)", "select sum(@*)",
                     "select min(a@, b)", "select max (@", "select exists@", "select exists @a", "select exists (@a)",
                     "select exists (select 1@", "select exists ((@a))", "select case @a", "select case@",
                     "select case when a @else", "select case when a then b @end", "select case when a then b else c@",
                     "select case when a then b else c @)", "select 1 @2", "select 'a' @'b'", "select $1@$2",
                     "select distinct@", "select ((select 1) @union select 2)", "select (select 1@",
                     "select (select 1, 2 from @)"):
            self.refused_at(text)

    def test_keywords_that_start_no_expression(self):
        for word in ("from where group by having order limit as join left on union all except intersect and or is in "
                     "when then else end mod desc").split():
            self.refused("select " + word, 7)
            self.refused("select a + " + word + " b", 11)
            self.refused("select a." + word, 9)


class Operators(Refusing):
    def test_each_two_operators(self):
        for first, second in itertools.product(LINE_OF, repeat=2):
            told = expression(f"a {first} b {second} c")
            if LINE_OF[first] >= LINE_OF[second]:
                self.assertEqual(told, binary(second, binary(first, A, B), C), (first, second))
            else:
                self.assertEqual(told, binary(first, A, binary(second, B, C)), (first, second))

    def test_each_two_operators_with_parentheses(self):
        for first, second in itertools.product(LINE_OF, repeat=2):
            left, right = expression(f"(a {first} b) {second} c"), expression(f"a {first} (b {second} c)")
            self.assertEqual(left, binary(second, binary(first, A, B), C), (first, second))
            self.assertEqual(right, binary(first, A, binary(second, B, C)), (first, second))

    def test_three_operators(self):
        self.assertEqual(expression("a or b and c = d"), binary("or", A, binary("and", B, binary("=", C, D))))
        self.assertEqual(expression("a = b + c * d"), binary("=", A, binary("+", B, binary("*", C, D))))
        self.assertEqual(expression("a - b - c - d"), binary("-", binary("-", binary("-", A, B), C), D))
        self.assertEqual(expression("a < b < c < d"), binary("<", binary("<", binary("<", A, B), C), D))

    def test_not(self):
        self.assertEqual(expression("not a"), ("not", A))
        self.assertEqual(expression("not not a"), ("not", ("not", A)))
        self.assertEqual(expression("not a = b"), ("not", binary("=", A, B)))
        self.assertEqual(expression("(not a) = b"), binary("=", ("not", A), B))
        self.assertEqual(expression("not a and b"), binary("and", ("not", A), B))
        self.assertEqual(expression("a and not b"), binary("and", A, ("not", B)))
        self.assertEqual(expression("a or not b or c"), binary("or", binary("or", A, ("not", B)), C))
        self.assertEqual(expression("not a or b"), binary("or", ("not", A), B))
        self.assertEqual(expression("not a is null"), ("not", ("is_null", A, False)))
        self.assertEqual(expression("not a + b in (c)"), ("not", ("in_list", binary("+", A, B), (C,), False)))

    def test_where_not_cannot_stand(self):
        for operator in LINES[2] + LINES[3] + LINES[4]:
            self.refused_at(f"select a {operator} @not b")
        self.refused_at("select - @not a")
        # Behind an operand it could still be `not in`.
        self.refused_at("select a not @b")
        self.refused_at("select a not @null")
        self.refused_at("select a not @not in (b)")

    def test_negate(self):
        self.assertEqual(expression("-a"), ("negate", A))
        self.assertEqual(expression("--a"), ("negate", ("negate", A)))
        self.assertEqual(expression("- - -1"), ("negate", ("negate", ("negate", ONE))))
        self.assertEqual(expression("a - -b"), binary("-", A, ("negate", B)))
        self.assertEqual(expression("a - - b - c"), binary("-", binary("-", A, ("negate", B)), C))
        for operator in LINE_OF:
            self.assertEqual(expression(f"-a {operator} -b"), binary(operator, ("negate", A), ("negate", B)))
            self.assertEqual(expression(f"-(a {operator} b)"), ("negate", binary(operator, A, B)))

    def test_is_null(self):
        self.assertEqual(expression("a is null"), ("is_null", A, False))
        self.assertEqual(expression("a is not null"), ("is_null", A, True))
        self.assertEqual(expression("a + b is null"), ("is_null", binary("+", A, B), False))
        self.assertEqual(expression("a = b is null"), ("is_null", binary("=", A, B), False))
        self.assertEqual(expression("a is null = b"), binary("=", ("is_null", A, False), B))
        self.assertEqual(expression("a is null is not null"), ("is_null", ("is_null", A, False), True))
        self.assertEqual(expression("-a is null"), ("is_null", ("negate", A), False))
        for text in ("select a is @", "select a is @b", "select a is not @", "select a is not @b", "select a is @true",
                     "select a is not @not null", "select a is null @null", "select a is null @+ b",
                     "select a is null @mod b", "select @is null"):
            self.refused_at(text)

    def test_in(self):
        self.assertEqual(expression("a in (b)"), ("in_list", A, (B,), False))
        self.assertEqual(expression("a not in (b, c or d)"), ("in_list", A, (B, binary("or", C, D)), True))
        self.assertEqual(expression("a in (select 1)"), ("in_query", A, S1, False))
        self.assertEqual(expression("a not in (select 1 union select 2)"),
                         ("in_query", A, ("set", "union", S1, S2), True))
        self.assertEqual(expression("a in ((select 1))"), ("in_list", A, (("scalar", S1),), False))
        self.assertEqual(expression("a in ((select 1), b)"), ("in_list", A, (("scalar", S1), B), False))
        self.assertEqual(expression("a in ((b), (c))"), ("in_list", A, (B, C), False))
        for text in ("select a in @", "select a in @b", "select a in (@)", "select a in (b@", "select a in (b,@)",
                     "select a in (b @c)", "select a in (select 1, @", "select a in (select 1@",
                     "select a in ((select 1) @union select 2)", "select a not @", "select a not @= b",
                     "select a not in @b", "select a in (b) @+ c", "select a in (select 1) @* c",
                     "select a in (b) @(c)"):
            self.refused_at(text)

    def test_several_one_behind_the_other(self):
        expected = ("is_null", ("in_list", ("is_null", A, True), (B,), False), False)
        self.assertEqual(expression("a is not null in (b) is null"), expected)
        expected = binary("<", ("in_query", binary("=", A, B), S1, True), C)
        self.assertEqual(expression("a = b not in (select 1) < c"), expected)
        expected = ("in_list", ("in_list", A, (B,), False), (C,), True)
        self.assertEqual(expression("a in (b) not in (c)"), expected)
        expected = binary("and", ("is_null", A, False), ("in_list", B, (C,), True))
        self.assertEqual(expression("a is null and b not in (c)"), expected)
        self.assertEqual(expression("a = b in (c)"), ("in_list", binary("=", A, B), (C,), False))

    def test_operators_without_an_operand(self):
        for operator in LINE_OF:
            self.refused(f"select a {operator}", 9 + len(operator))
            self.refused(f"select a {operator} )", 10 + len(operator))
            if operator not in "-*":
                self.refused(f"select {operator} a", 7)
        self.refused_at("select * @a")
        self.refused_at("select *@, a")
        self.refused_at("select a, @*")
        self.refused_at("select -@")
        self.refused_at("select not @")


class Queries(Refusing):
    def test_a_select(self):
        self.assertEqual(query("select *"), ("select", False, None, None, None, None, None))
        self.assertEqual(query("select distinct *"), ("select", True, None, None, None, None, None))
        self.assertEqual(query("select a as b, c"), ("select", False, ((A, "b"), (C, None)), None, None, None, None))
        told = query("select distinct a from t where b group by c, d having a")
        self.assertEqual(told, select(A, distinct=True, sources=("table", "t", None), where=B, group=(C, D), having=A))
        self.assertEqual(query("select a having b"), select(A, having=B))
        self.assertEqual(query("select a group by b + c"), select(A, group=(binary("+", B, C),)))
        self.assertEqual(query("select a where b"), select(A, where=B))

    def test_refused_selects(self):
        for text in ("@", "  @", "@a", "@1", "@'select'", "select distinct @", "select distinct @distinct a",
                     "select a @distinct", "select a as @", "select a as @1", "select a as @count", "select a as b @c",
                     "select a as b @as c", "select a,@", "select a from @", "select a from @1",
                     "select a from @select 1", "select a from t @,u", "select a from t @as u", "select a from t u @v",
                     "select a from t @. u", "select a where @", "select a where b @from t",
                     "select a where b @where c", "select a group @a", "select a group by @", "select a group by a,@",
                     "select a group by a @where b", "select a having @", "select a having b @group by c",
                     "select a having b @having c", "select a from t @on a", "select * @as b", "select a @)",
                     "select a @select b", "@from t", "select a from t where b @c"):
            self.refused_at(text)

    def test_sources(self):
        t, u, v = [("table", name, None) for name in "tuv"]
        for text, tree in (
                ("t", t), ("t x", ("table", "t", "x")), ("(select 1) q", ("subquery", S1, "q")),
                ("((select 1)) q", ("subquery", S1, "q")),
                ("(select 1 union select 2) q", ("subquery", ("set", "union", S1, S2), "q")),
                ("((select 1) union select 2) q", ("subquery", ("set", "union", S1, S2), "q")),
                ("t join u on a", ("join", t, u, A, False)), ("t left join u on a", ("join", t, u, A, True)),
                ("t x join u y on a = b", ("join", ("table", "t", "x"), ("table", "u", "y"), binary("=", A, B), False)),
                ("t join u on a left join v on b or c",
                 ("join", ("join", t, u, A, False), v, binary("or", B, C), True)),
                ("t left join u on a join v on b", ("join", ("join", t, u, A, True), v, B, False)),
                ("(select 1) q join (select 2) r on a",
                 ("join", ("subquery", S1, "q"), ("subquery", S2, "r"), A, False)),
                ("(select a from (select 1) q) r", ("subquery", select(A, sources=("subquery", S1, "q")), "r"))):
            self.assertEqual(query("select a from " + text), select(A, sources=tree))
            self.assertEqual(query(f"select a from {text} where b"), select(A, sources=tree, where=B))

    def test_refused_sources(self):
        for text in ("(select 1)@", "(select 1) @as q", "(select 1) @1", "(@t) q", "(@)", "(@t", "t join@", "t join u@",
                     "t join u @where a", "t join u on@", "t left @u on a", "t left@", "t @on a", "t join u on a @on b",
                     "t join @join u", "t left join @on", "t inner @join2 u", "(select 1) q @r", "t join u x @y"):
            self.refused_at("select a from " + text)
        self.assertEqual(query("select a from t inner"), select(A, sources=("table", "t", "inner")))

    def test_set_operators(self):
        words = ("union all", "union", "except", "intersect")
        for word in words:
            self.assertEqual(query(f"select 1 {word} select 2"), ("set", word, S1, S2))
            self.assertEqual(query(f"(select 1) {word} (select 2)"), ("set", word, S1, S2))
            self.assertEqual(query(f"((select 1 {word} (select 2)))"), ("set", word, S1, S2))
        for first, second in itertools.product(words, repeat=2):
            left = ("set", second, ("set", first, S1, S2), S3)
            right = ("set", first, S1, ("set", second, S2, S3))
            self.assertEqual(query(f"select 1 {first} select 2 {second} select 3"), left)
            self.assertEqual(query(f"(select 1 {first} select 2) {second} select 3"), left)
            self.assertEqual(query(f"select 1 {first} (select 2 {second} select 3)"), right)
        self.assertEqual(query("select a from t where b union select c having d"),
                         ("set", "union", select(A, sources=("table", "t", None), where=B), select(C, having=D)))

    def test_refused_set_operators(self):
        for text in ("select 1 union@", "select 1 union all@", "select 1 union all @all select 2",
                     "select 1 except @all select 2", "select 1 union @distinct select 2", "select 1 union @a",
                     "select 1 union (@a)", "select 1 union (select 2@", "(select 1@", "(@", "((@)", "(select 1) @+ 2",
                     "(select 1) @a", "(select 1) @select 2", "@union select 1", "(select 1 union (select 2)@",
                     "select 1 union select 2 @)", "(select 1) @, (select 2)", "(@)"):
            self.refused_at(text)

    def test_order_and_limit(self):
        for text, order, limit in (
                ("order by a", (("a", False),), None), ("order by a desc", (("a", True),), None),
                ("order by 1, a desc, 007", ((1, False), ("a", True), (7, False)), None), ("limit 0", (), 0),
                ("limit 007", (), 7), ("order by 0 limit 5", ((0, False),), 5),
                ("order by a, a desc", (("a", False), ("a", True)), None)):
            self.assertEqual(parse("select 1 " + text), ("question", S1, order, limit))
            self.assertEqual(parse(f"(select 1) {text}"), ("question", S1, order, limit))
            self.assertEqual(parse(f"select 1 union select 2 {text}"),
                             ("question", ("set", "union", S1, S2), order, limit))

    def test_refused_order_and_limit(self):
        for text in ("order@", "order @a", "order by@", "order by @'a'", "order by @$1", "order by a@.b",
                     "order by a @asc", "order by a,@", "order by a @b", "order by a desc @desc", "order by @-1",
                     "order by a@+ b", "limit@", "limit @a", "limit @$1", "limit @-1", "limit 1 @2", "limit 1@, 2",
                     "limit 1 @order by a", "limit 1 @limit 1", "order by @(a)", "order by a limit 1 @)",
                     "order by @count", "order by @desc", "order by a @union select 2", "limit 1 @union select 2",
                     "order by a @where b"):
            self.refused_at("select 1 " + text)

    def test_not_in_inner_queries(self):
        for word in ("order by a", "limit 1"):
            for text in (f"(select 1 @{word})", f"select (select 1 @{word})", f"select exists (select 1 @{word})",
                         f"select a in (select 1 @{word})", f"select a from (select 1 @{word}) q",
                         f"select 1 union (select 2 @{word})", f"(select 1 @{word}) union select 2"):
                self.refused_at(text)

    def test_blanks_and_newlines(self):
        self.assertEqual(parse("\nselect\na\n,b from(select 1)q"), parse("select a, b from (select 1) q"))
        self.assertEqual(parse("select count(*)from t limit 1 "), parse(" select count ( * ) from t limit 1"))
        self.assertEqual(expression("a=b"), binary("=", A, B))
        self.assertEqual(expression("1or 2"), binary("or", ONE, ("literal", 2)))


class Characters(Refusing):
    def test_characters_come_first(self):
        self.refused_at("select select from @|")
        self.refused_at("a b c @'d")
        self.refused_at(") ) ) @$ )")
        self.refused_at("select a b @" + "1" * 31)
        self.refused_at("(" * 200 + " @A")
        self.refused_at("a, " * 200 + "@\t")

    def test_nothing_and_blanks(self):
        self.refused("", 0)
        self.refused(" ", 1)
        self.refused("\n \n", 3)

    def test_the_length_of_the_text(self):
        self.refused("select ", 7)
        self.refused("select a, \n", 11)
        self.refused("select 'a' ||", 13)

    def test_whatever_stands_behind(self):
        for text in ("", " )", " from", " 1 2 3", " select a from t"):
            self.refused("select a b" + text, 9)


class Limits(Refusing):
    def test_120_tokens(self):
        text = "select a" + ", a" * 59
        self.assertEqual(len(query(text)[2]), 60)
        self.assertEqual(len(query("(" + text[:-3] + ")")[2]), 59)
        self.refused_at(text + "@, a")
        self.refused_at(text + " @limit 1")
        self.refused_at(text + " @)")
        self.refused_at(text + "   @, , ,")
        self.refused_at(text + " @+ 1")

    def test_120_tokens_that_are_not_complete(self):
        text = "select a" + ", a" * 58
        self.refused_at(text + ", a@.b")
        self.refused_at(text + ", @")
        self.refused_at(text + "+ (@a")
        self.refused_at("select" + " -a +" * 39 + " a + @")
        self.refused_at("select" + " -a +" * 39 + " a + @a")

    def test_an_earlier_token_comes_first(self):
        self.refused_at("select a @b" + ", a" * 200)
        self.refused_at("select @, a" + ", a" * 200)

    def test_parentheses(self):
        for depth in (11, 12):
            self.assertEqual(expression("(" * depth + "a" + ")" * depth), A)
            self.assertEqual(query("(" * depth + "select 1" + ")" * depth), S1)
            self.assertEqual(query("select a from " + "(" * depth + "select 1" + ")" * depth + " q"),
                             select(A, sources=("subquery", S1, "q")))
        for depth in (12, 13, 40):
            self.refused_at("select " + "(" * 12 + "@(" + "(" * (depth - 12) + "a")
            self.refused_at("(" * 12 + "@(" + "(" * (depth - 12) + "select 1")
            self.refused_at("select a from " + "(" * 12 + "@(select 1")

    def test_each_thing_at_depth_12(self):
        for text in ("@(a)", "@not a", "@-a", "@case when a", "count@(*)", "count@(a)", "sum@(a)", "max@(a)", "min@(a)",
                     "exists @(select 1)", "a in @(b)", "a not in @(b)", "a in @(select 1)", "@(select 1)", "a + @-b",
                     "a and @not b", "a and @-b"):
            self.refused_at("select " + "(" * 12 + text)
            inside = text.replace("@", "")
            with self.assertRaises(RefusedText):
                parse("select " + "(" * 11 + inside)
            if inside != "case when a":
                parse("select " + "(" * 11 + inside + ")" * 11)
        parse("select " + "(" * 11 + "case when a then b else c end" + ")" * 11)

    def test_what_is_no_prefix_at_depth_12(self):
        for text in ("a is not null", "a - b", "a - b is not null", "1 * 2", "a <> b", "count", "exists", "a not",
                     "a not in", "a in"):
            inside = "select " + "(" * 12 + text
            if text in ("count", "exists", "a not", "a not in", "a in"):
                self.refused(inside, len(inside))
            else:
                parse(inside + ")" * 12)

    def test_prefixes(self):
        for sign, word in (("not ", "not"), ("- ", "negate")):
            tree = A
            for depth in range(12):
                tree = (word, tree)
            self.assertEqual(expression(sign * 12 + "a"), tree)
            self.refused_at("select " + sign * 12 + "@" + sign + "a")
            self.refused_at("select " + sign * 12 + "@(a)")
            self.refused_at("select " + sign * 12 + "@case when")

    def test_cases(self):
        start, end = "case when a then b else ", " end"
        tree = C
        for depth in range(12):
            tree = ("case", A, B, tree)
        self.assertEqual(expression(start * 12 + "c" + end * 12), tree)
        self.refused_at("select " + start * 12 + "@" + start)
        start = "case when "
        self.refused_at("select " + start * 12 + "@" + start)
        self.refused_at("select " + start * 12 + "a then @-b")

    def test_end_closes_a_case(self):
        one = "case when a then b else c end"
        text = "(" * 11 + " + ".join([one, one, "-a", one, "(a)"]) + ")" * 11
        expression(text)
        self.refused_at("select " + "(" * 12 + "a + @" + one)
        self.refused_at("select " + "(" * 11 + one + " + (@(")

    def test_the_end_of_an_operand_closes_a_prefix(self):
        expression("(" * 11 + "-a - -b * -c" + ")" * 11)
        expression("(" * 11 + "not a and not b or not c" + ")" * 11)
        expression("(" * 11 + "-a in (b) and not c" + ")" * 11)
        expression("(" * 10 + "not -a + -b = (c) and (d)" + ")" * 10)
        self.refused_at("select " + "(" * 11 + "-a + (@(b")
        self.refused_at("select " + "(" * 10 + "- -a + ((@-b")
        self.refused_at("select " + "(" * 11 + "not a and (@(b")
        self.refused_at("select " + "(" * 10 + "not not a or not not @not b")
        self.refused_at("select " + "(" * 11 + "not a = @(b)")
        self.refused_at("select " + "(" * 11 + "not a in @(b)")
        self.refused_at("select " + "(" * 11 + "not a = @-b")
        self.refused_at("select " + "(" * 11 + "- @-b")
        self.refused_at("select " + "(" * 11 + "- @(b)")
        expression("(" * 11 + "not a = b and (c)" + ")" * 11)
        expression("(" * 11 + "-a = (b)" + ")" * 11)

    def test_mixed(self):
        text = "not (- case when (not a) then b else count(c) end)"
        expression(text)
        self.refused_at("select " + "not (- case when " * 3 + "@(a)")
        self.refused_at("select " + "-(" * 6 + "@-a")
        self.refused_at("select " + "not (" * 6 + "@not a")
        expression("not (" * 6 + "a" + ")" * 6)
        self.refused_at("select " + "(select " * 12 + "@(select 1")
        self.refused_at("select a from " + "(select a from " * 12 + "@(select 1")
        query("select a from " + "(select a from " * 11 + "(select 1) q" + ") q" * 11)
        expression("a in (" * 12 + "b" + ")" * 12)
        self.refused_at("select " + "a in (" * 12 + "a in @(b")

    def test_limits_do_not_look_ahead(self):
        self.refused_at("select " + "(" * 12 + " exists @)")
        self.refused_at("select " + "(" * 12 + " a) + @)")
        self.refused_at("select a" + ", a" * 58 + ", exists @(select 1)")


class Given(unittest.TestCase):
    def test_nothing_is_remembered(self):
        text = "select a from t order by 1 limit 2"
        self.assertEqual(parse(text), parse(text))
        hash(parse(text))


if __name__ == "__main__":
    unittest.main()
