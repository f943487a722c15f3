"""Each level of expressions, from the left and nested."""

import unittest

from answers import Checks, ONE, col, num

A, B, C, D = col("a"), col("b"), col("c"), col("d")
CHAINS = (
    ("or", 0, 3), ("and", 1, 2), ("||", 4, 42), ("+", 5, 16), ("-", 5, 17), ("*", 6, 18), ("/", 6, 19), ("%", 6, 20),
)
COMPARISONS = (("=", 8), ("<>", 9), ("<", 10), ("<=", 11), (">", 12), (">=", 13))


def op(number, *operands):
    return f"132({number} {' '.join(operands)})"


class Levels(Checks, unittest.TestCase):
    def test_each_operator_from_the_left(self):
        for sign, level, number in CHAINS:
            self.expr(f"a {sign} b", op(number, A, B))
            self.expr(f"a {sign} b {sign} c", op(number, op(number, A, B), C))
            self.expr(f"a {sign} b {sign} c {sign} d", op(number, op(number, op(number, A, B), C), D))
            self.expr(f"a {sign} (b {sign} c)", op(number, A, op(number, B, C)))
            self.expr(f"(a {sign} b) {sign} c", op(number, op(number, A, B), C))

    def test_each_pair_of_operators(self):
        for first, upper, one in CHAINS:
            for second, lower, two in CHAINS:
                left = op(two, op(one, A, B), C)
                right = op(one, A, op(two, B, C))
                self.expr(f"a {first} b {second} c", left if upper >= lower else right)
                self.expr(f"(a {first} b) {second} c", left)
                self.expr(f"a {first} (b {second} c)", right)

    def test_comparisons_between_the_levels(self):
        for sign, number in COMPARISONS:
            self.expr(f"a {sign} b", op(number, A, B))
            for chain, level, other in CHAINS:
                if level < 3:
                    self.expr(f"a {sign} b {chain} c", op(other, op(number, A, B), C))
                    self.expr(f"a {chain} b {sign} c", op(other, A, op(number, B, C)))
                else:
                    self.expr(f"a {sign} b {chain} c", op(number, A, op(other, B, C)))
                    self.expr(f"a {chain} b {sign} c", op(number, op(other, A, B), C))

    def test_one_comparison_alone(self):
        first = ("a = b", "a < b", "a is null", "a is not true", "a between b and c", "a like b", "a found b",
                 "a in (b)", "a not in (b)", "a in (select 1)")
        behind = ("= c", "<> c", ">= c", "is null", "between b and c", "like c", "found c", "in (c)", "not in (c)",
                  "not like c")
        for left in first:
            for right in behind:
                self.wrong(f"select {left} ^{right}", 6)
                self.wrong(f"select ({left} ^{right})", 5, ")")
        self.wrong("select a = b ^not c", 6)
        self.expr("(a = b) = c", op(8, op(8, A, B), C))
        self.expr("a = (b = c)", op(8, A, op(8, B, C)))

    def test_not(self):
        self.expr("not a", op(1, A))
        self.expr("not not a", op(1, op(1, A)))
        self.expr("not a = b", op(1, op(8, A, B)))
        self.expr("not a and b", op(2, op(1, A), B))
        self.expr("not a or b", op(3, op(1, A), B))
        self.expr("a and not b", op(2, A, op(1, B)))
        self.expr("a or not b and c", op(3, A, op(2, op(1, B), C)))
        self.expr("not a + b", op(1, op(16, A, B)))
        self.expr("not a is not null", op(1, op(1, op(4, A))))
        self.expr("not a not in (b)", op(1, op(1, f"134({A} {B})")))
        self.expr("(not a) = b", op(8, op(1, A), B))
        self.expr("not (a = b)", op(1, op(8, A, B)))
        self.expr("not(a) = b", op(1, op(8, A, B)))

    def test_not_stands_before_no_higher_level(self):
        for text in ("a = ^not b", "a + ^not b", "- ^not b", "a || ^not b", "a like ^not b", "a between ^not b and c",
                     "a between b and ^not c", "a * ^not b", "not a = ^not b"):
            self.wrong("select " + text, 2)

    def test_is(self):
        self.expr("a is null", op(4, A))
        self.expr("a is true", op(5, A))
        self.expr("a is not null", op(1, op(4, A)))
        self.expr("a is not true", op(1, op(5, A)))
        self.expr("a + b is null", op(4, op(16, A, B)))
        self.expr("a is null and b", op(2, op(4, A), B))
        for text in ("a is ^false", "a is ^not1", "a is not ^false", "a is ^b", "a is not ^not null", "a is^",
                     "a is not^", 'a is ^"null"', "a is ^(null)"):
            self.wrong("select " + text, 5, "null")

    def test_between(self):
        self.expr("a between b and c", op(2, op(13, A, B), op(11, A, C)))
        self.expr("a between b and c and d", op(2, op(2, op(13, A, B), op(11, A, C)), D))
        self.expr("a not between b and c", op(1, op(2, op(13, A, B), op(11, A, C))))
        self.expr("a + b between c || d and - d",
                  op(2, op(13, op(16, A, B), op(42, C, D)), op(11, op(16, A, B), op(21, D))))
        self.expr("a between (b and c) and d", op(2, op(13, A, op(2, B, C)), op(11, A, D)))
        self.expr("a or b between c and d", op(3, A, op(2, op(13, B, C), op(11, B, D))))
        self.wrong("select a between b ^or c", 5, "and")
        self.wrong("select a between b^", 5, "and")
        self.wrong("select a between b ^= c and d", 5, "and")
        self.wrong("select a between ^and c", 2)
        self.wrong("select a between b and ^", 2)

    def test_like_and_found(self):
        for word, number in (("like", 49), ("found", 90)):
            self.expr(f"a {word} b", op(number, A, B))
            self.expr(f"a not {word} b", op(1, op(number, A, B)))
            self.expr(f"a || b {word} c || d", op(number, op(42, A, B), op(42, C, D)))
            self.expr(f"a and b {word} c", op(2, A, op(number, B, C)))
            self.wrong(f"select a {word} ^", 2)

    def test_in(self):
        self.expr("a in (b)", f"134({A} {B})")
        self.expr("a in (b, c or d)", f"134({A} {B} {op(3, C, D)})")
        self.expr("a not in (b, c)", op(1, f"134({A} {B} {C})"))
        self.expr("a in (select 1)", f"135({A} {ONE})")
        self.expr("a in (select 1 union select 1 limit 1)", f"135({A} 154(153(1 {ONE} {ONE}) 0 1))")
        self.expr("a not in (select 1)", op(1, f"135({A} {ONE})"))
        self.expr("a in ((select 1))", f"134({A} 137({ONE}))")
        self.expr("a in ((select 1), b)", f"134({A} 137({ONE}) {B})")
        self.expr("a + b in (c)", f"134({op(16, A, B)} {C})")
        self.wrong("select a in ^b", 5, "(")
        self.wrong("select a in (^)", 2)
        self.wrong("select a in (b^", 5, ")")
        self.wrong("select a in (b ^c)", 5, ")")
        self.wrong("select a in (b, ^)", 2)
        self.wrong("select a in (select 1, 2 ^b)", 5, ")")
        self.wrong("select a in ((select 1) ^union select 1)", 5, ")")

    def test_not_behind_an_operand(self):
        for text in ("a not ^b", "a not^", "a not ^null", "a not ^= b", "a not ^is null", "a not ^not in (b)",
                     "a not ^true", "a + b not ^c", 'a not ^"in" (b)'):
            self.wrong("select " + text, 5, "in")

    def test_minus(self):
        self.expr("-a", op(21, A))
        self.expr("- - a", op(21, op(21, A)))
        self.expr("-(-a)", op(21, op(21, A)))
        self.expr("-a + b", op(16, op(21, A), B))
        self.expr("-a * b", op(18, op(21, A), B))
        self.expr("a * -b", op(18, A, op(21, B)))
        self.expr("a - -b", op(17, A, op(21, B)))
        self.expr("a-b", op(17, A, B))
        self.expr("-(a + b)", op(21, op(16, A, B)))
        self.expr("-a = -b", op(8, op(21, A), op(21, B)))
        self.expr("-5", op(21, num(5)))
        self.wrong("select ^+ a", 2)

    def test_all_levels_at_once(self):
        self.expr(
            "a or b and not c = d || a + b * - c",
            op(3, A, op(2, B, op(1, op(8, C, op(42, D, op(16, A, op(18, B, op(21, C)))))))),
        )
        self.expr(
            "- a * b + c || d = a and b or c",
            op(3, op(2, op(8, op(42, op(16, op(18, op(21, A), B), C), D), A), B), C),
        )


class Operands(Checks, unittest.TestCase):
    def test_given_values_and_brackets(self):
        self.expr("$1", "130(0)")
        self.expr("$64", "130(63)")
        self.expr("(a)", A)
        self.expr("(((a)))", A)
        self.wrong("select (^)", 2)
        self.wrong("select (a^", 5, ")")
        self.wrong("select (a^, b)", 5, ")")

    def test_questions_in_brackets(self):
        self.expr("(select 1)", f"137({ONE})")
        self.expr("((select 1))", f"137({ONE})")
        self.expr("(select 1 union select 1 offset 2)", f"137(154(153(1 {ONE} {ONE}) 2 -1))")
        self.expr("(select 1) + 1", op(16, f"137({ONE})", num(1)))
        self.wrong("select ((select 1) ^union select 1)", 5, ")")

    def test_case(self):
        self.expr("case when a then b end", f"138({A} {B} 128(16()))")
        self.expr("case when a then b else c end", f"138({A} {B} {C})")
        self.expr("case when a then b when c then d end", f"138({A} {B} {C} {D} 128(16()))")
        self.expr("case when a or b then not c else a and b end",
                  f"138({op(3, A, B)} {op(1, C)} {op(2, A, B)})")
        self.expr("case when case when a then b end then c end + d",
                  op(16, f"138(138({A} {B} 128(16())) {C} 128(16()))", D))
        self.wrong("select case ^a when b then c end", 5, "when")
        self.wrong("select case ^else a end", 5, "when")
        self.wrong("select case ^end", 5, "when")
        self.wrong("select case when a ^b", 5, "then")
        self.wrong("select case when a ^end", 5, "then")
        self.wrong("select case when a then b ^then", 5, "end")
        self.wrong("select case when a then b ^", 5, "end")
        self.wrong("select case when a then b else c ^else d end", 5, "end")
        self.wrong("select case when a then b else c ^when a then b end", 5, "end")
        self.wrong("select case when ^then", 2)
        self.wrong("select case when a then b else ^end", 2)

    def test_cast(self):
        self.expr("cast(a as whole)", f"139(1(2 0 0) {A})")
        self.expr("cast(a or b as text(5))", f"139(1(5 5 0) {op(3, A, B)})")
        self.wrong("select cast ^a as whole", 5, "(")
        self.wrong("select cast(^as whole)", 2)
        self.wrong("select cast(a^, whole)", 5, "as")
        self.wrong("select cast(a ^whole)", 5, "as")
        self.wrong("select cast(a as whole ^b)", 5, ")")

    def test_exists(self):
        self.expr("exists (select 1)", f"136({ONE})")
        self.expr("exists ((select 1))", f"136({ONE})")
        self.expr("exists ((select 1) union select 1)", f"136(153(1 {ONE} {ONE}))")
        self.expr("not exists (select 1)", op(1, f"136({ONE})"))
        self.wrong("select exists ^select 1", 5, "(")
        self.wrong("select exists (^1)", 5, "select")
        self.wrong("select exists ((^1))", 5, "select")
        self.wrong("select exists (^)", 5, "select")
        self.wrong("select exists (select 1^", 5, ")")

    def test_columns(self):
        self.expr("a", "129(' '61)")
        self.expr("t.a", "129('74 '61)")
        self.expr('"T"."A"', "129('54 '41)")
        self.wrong("select a.^", 3)
        self.wrong("select a.^5", 3)
        self.wrong("select a.^select", 3)
        self.wrong("select a.b^.c", 6)
        self.wrong("select a.b^(c)", 6)
        self.wrong("select 1 + a.^*", 3)
        self.wrong("select (a.^*)", 3)

    def test_calls(self):
        self.expr("f()", "140('66)")
        self.expr("f(a)", f"140('66 {A})")
        self.expr("f(a, b or c)", f"140('66 {A} {op(3, B, C)})")
        self.expr("f(*)", "141('66 0)")
        self.expr("f(distinct a)", f"141('66 1 {A})")
        self.expr("f(distinct a, b)", f"141('66 1 {A} {B})")
        self.expr('"F"(g(a))', f"140('46 140('67 {A}))")
        self.expr('f("distinct")', f"140('66 {col('distinct')})")
        self.expr("f((select 1))", f"140('66 137({ONE}))")
        self.wrong("select f(^select 1)", 2)
        self.wrong("select f(*^, a)", 5, ")")
        self.wrong("select f(^, a)", 2)
        self.wrong("select f(a, ^)", 2)
        self.wrong("select f(a ^b)", 5, ")")
        self.wrong("select f(distinct ^)", 2)
        self.wrong("select f(distinct ^*)", 2)
        self.wrong("select f(^", 2)
        self.wrong("select f()^()", 6)

    def test_over(self):
        self.expr("f() over ()", "142(140('66) 0)")
        self.expr("f(*) over (partition by a)", f"142(141('66 0) 1 {A})")
        self.expr("f(distinct a) over (order by b)", f"142(141('66 1 {A}) 0 155({B} 0))")
        self.expr("f(a) over (partition by a, b or c order by c desc, d asc, a)",
                  f"142(140('66 {A}) 2 {A} {op(3, B, C)} 155({C} 1) 155({D} 0) 155({A} 0))")
        self.expr("f() over () + g()", op(16, "142(140('66) 0)", "140('67)"))
        self.wrong("select f() over ^a", 5, "(")
        self.wrong("select f() over (^a)", 5, ")")
        self.wrong("select f() over (partition ^a)", 5, "by")
        self.wrong("select f() over (order ^a)", 5, "by")
        self.wrong("select f() over (partition by ^)", 2)
        self.wrong("select f() over (partition by a ^b)", 5, ")")
        self.wrong("select f() over (order by a ^partition by b)", 5, ")")
        self.wrong("select f() over (order by a desc ^asc)", 5, ")")
        self.wrong("select f() over () ^over ()", 6)
        self.wrong("select a ^over ()", 6)
        self.wrong("select (f()) ^over ()", 6)
        self.wrong("select t.f ^over ()", 6)

    def test_what_begins_no_expression(self):
        for token in ("", ")", ",", ".", "*", "+", "/", "%", "=", "<", ">", "<>", "<=", ">=", "||", "from", "select",
                      "and", "or", "in", "is", "like", "between", "as", "by", "distinct", "else", "end", "then",
                      "when", "where", "over", "partition", "values", "left", "set", "on", "all"):
            self.wrong(f"select a + ^{token}", 2)
            self.wrong(f"select f(a, ^{token}", 2)


if __name__ == "__main__":
    unittest.main()
