"""Expressions as they are said, to the byte: each operator, and where brackets stand."""

import unittest

from answers import Checks, answer

# An operator between two operands: its level, and the least that its left and its right operand must have.
CHAINS = (
    ("or", 0, 0, 1), ("and", 1, 1, 2), ("||", 4, 4, 5), ("+", 5, 5, 6), ("-", 5, 5, 6), ("*", 6, 6, 7),
    ("/", 6, 6, 7), ("%", 6, 6, 7),
)
COMPARING = tuple((sign, 3, 4, 4) for sign in ("=", "<>", "<", "<=", ">", ">=", "like", "found"))
BINARY = CHAINS + COMPARING

# Expressions with their level, and how they are said.
SAMPLES = (
    ("a or b", 0, '"a" or "b"'),
    ("a and b", 1, '"a" and "b"'),
    ("a between b and c", 1, '"a" >= "b" and "a" <= "c"'),
    ("not a", 2, 'not "a"'),
    ("a is not null", 2, 'not "a" is null'),
    ("a is not true", 2, 'not "a" is true'),
    ("a not between b and c", 2, 'not ("a" >= "b" and "a" <= "c")'),
    ("a not like b", 2, 'not "a" like "b"'),
    ("a not found b", 2, 'not "a" found "b"'),
    ("a not in (b, c)", 2, 'not "a" in ("b", "c")'),
    ("a not in (select b)", 2, 'not "a" in (select "b")'),
    ("a = b", 3, '"a" = "b"'),
    ("a <> b", 3, '"a" <> "b"'),
    ("a < b", 3, '"a" < "b"'),
    ("a <= b", 3, '"a" <= "b"'),
    ("a > b", 3, '"a" > "b"'),
    ("a >= b", 3, '"a" >= "b"'),
    ("a is null", 3, '"a" is null'),
    ("a is true", 3, '"a" is true'),
    ("a like b", 3, '"a" like "b"'),
    ("a found b", 3, '"a" found "b"'),
    ("a in (b, c)", 3, '"a" in ("b", "c")'),
    ("a in (select b)", 3, '"a" in (select "b")'),
    ("a || b", 4, '"a" || "b"'),
    ("a + b", 5, '"a" + "b"'),
    ("a - b", 5, '"a" - "b"'),
    ("a * b", 6, '"a" * "b"'),
    ("a / b", 6, '"a" / "b"'),
    ("a % b", 6, '"a" % "b"'),
    ("- a", 7, '- "a"'),
    ("a", 8, '"a"'),
    ("t.a", 8, '"t"."a"'),
    ("$3", 8, "$3"),
    ("1", 8, "1"),
    ("1.50", 8, "1.50"),
    ("'a'", 8, "'a'"),
    ("null", 8, "null"),
    ("day '2000-01-01'", 8, "day '2000-01-01'"),
    ("x'00'", 8, "x'00'"),
    ("(select 1)", 8, "(select 1)"),
    ("exists (select 1)", 8, "exists (select 1)"),
    ("case when a then b end", 8, 'case when "a" then "b" else null end'),
    ("cast(a as whole)", 8, 'cast("a" as whole)'),
    ("f(a or b)", 8, '"f"("a" or "b")'),
    ("f()", 8, '"f"()'),
    ("f(*) over ()", 8, '"f"(*) over ()'),
)


def held(wanted, level, least):
    """What is said of an operand with this level, where one with the least level is wanted."""
    return f"({wanted})" if level < least else wanted


class Levels(Checks, unittest.TestCase):
    def test_each_sample_alone(self):
        for text, level, wanted in SAMPLES:
            self.says_expr(text, wanted)
            self.says_expr(f"((({text})))", wanted)
            self.says_expr(f"  (\n{text}\n) -- )", wanted)

    def test_each_operand_of_each_operator(self):
        for sign, own, left, right in BINARY:
            for text, level, wanted in SAMPLES:
                self.says_expr(f"({text}) {sign} z", f'{held(wanted, level, left)} {sign} "z"')
                self.says_expr(f"z {sign} ({text})", f'"z" {sign} {held(wanted, level, right)}')

    def test_each_operand_without_brackets_in_the_text(self):
        for sign, own, left, right in BINARY:
            for text, level, wanted in SAMPLES:
                if level >= left:
                    self.says_expr(f"{text} {sign} z", f'{wanted} {sign} "z"')
                if level >= right:
                    self.says_expr(f"z {sign} {text}", f'"z" {sign} {wanted}')

    def test_before_and_behind_one_operand(self):
        for text, level, wanted in SAMPLES:
            self.says_expr(f"not ({text})", f"not {held(wanted, level, 2)}")
            self.says_expr(f"- ({text})", f"- {held(wanted, level, 7)}")
            self.says_expr(f"-({text})", f"- {held(wanted, level, 7)}")
            self.says_expr(f"({text}) is null", f"{held(wanted, level, 4)} is null")
            self.says_expr(f"({text}) is true", f"{held(wanted, level, 4)} is true")
            self.says_expr(f"({text}) is not null", f"not {held(wanted, level, 4)} is null")
            self.says_expr(f"({text}) is not true", f"not {held(wanted, level, 4)} is true")

    def test_in(self):
        for text, level, wanted in SAMPLES:
            self.says_expr(f"({text}) in (1)", f"{held(wanted, level, 4)} in (1)")
            self.says_expr(f"({text}) in (select 1)", f"{held(wanted, level, 4)} in (select 1)")
            self.says_expr(f"({text}) not in (1)", f"not {held(wanted, level, 4)} in (1)")
            self.says_expr(f"({text}) not in (select 1)", f"not {held(wanted, level, 4)} in (select 1)")
            self.says_expr(f"z in ({text},({text}))", f'"z" in ({wanted}, {wanted})')
            self.says_expr(f"z in (({text}))", f'"z" in ({wanted})')

    def test_between(self):
        for text, level, wanted in SAMPLES:
            inner = held(wanted, level, 4)
            self.says_expr(f"({text}) between 1 and 2", f"{inner} >= 1 and {inner} <= 2")
            self.says_expr(f"z between ({text}) and 2", f'"z" >= {inner} and "z" <= 2')
            self.says_expr(f"z between 1 and ({text})", f'"z" >= 1 and "z" <= {inner}')
            self.says_expr(f"({text}) not between 1 and 2", f"not ({inner} >= 1 and {inner} <= 2)")

    def test_where_any_level_may_stand(self):
        for text, level, wanted in SAMPLES:
            for inner in (text, f"({text})"):
                self.says_expr(f"f({inner}, {inner})", f'"f"({wanted}, {wanted})')
                self.says_expr(f"f(distinct {inner})", f'"f"(distinct {wanted})')
                self.says_expr(f"f() over (partition by {inner}, {inner} order by {inner} desc)",
                               f'"f"() over (partition by {wanted}, {wanted} order by {wanted} desc)')
                self.says_expr(f"case when {inner} then {inner} else {inner} end",
                               f"case when {wanted} then {wanted} else {wanted} end")
                self.says_expr(f"cast({inner} as whole)", f"cast({wanted} as whole)")
                self.says_expr(f"{inner} as z", f'{wanted} as "z"')
                self.says(f"select 1 from t join u on {inner} where {inner} group by {inner}, {inner} having {inner} "
                          f"order by {inner} asc",
                          f'select 1 from "t" join "u" on {wanted} where {wanted} group by {wanted}, {wanted} '
                          f"having {wanted} order by {wanted}")
                self.says(f"insert into t values ({inner}, {inner})", f'insert into "t" values ({wanted}, {wanted})')
                self.says(f"update t set a = {inner} where {inner}", f'update "t" set "a" = {wanted} where {wanted}')
                self.says(f"execute n ({inner})", f'execute "n" ({wanted})')
                self.says(f"create table t (check ({inner}))", f'create table "t" (check ({wanted}))')

    def test_default(self):
        for text, level, wanted in SAMPLES:
            self.says(f"create table t (c whole default ({text}))",
                      f'create table "t" ("c" whole default {held(wanted, level, 4)})')
            if level >= 4:
                self.says(f"create table t (c whole not null default {text}, d day)",
                          f'create table "t" ("c" whole not null default {wanted}, "d" day)')

    def test_chains(self):
        for sign, own, left, right in CHAINS:
            said = f'"a" {sign} "b" {sign} "c"'
            self.says_expr(f"a {sign} b {sign} c", said)
            self.says_expr(f"(a {sign} b) {sign} c", said)
            self.says_expr(f"((a) {sign} (b)) {sign} (c)", said)
            self.says_expr(f"a {sign} (b {sign} c)", f'"a" {sign} ("b" {sign} "c")')
            self.says_expr(f"(a {sign} b) {sign} (c {sign} d)", f'"a" {sign} "b" {sign} ("c" {sign} "d")')
            for other, level, *rest in CHAINS:
                first, second = f'"a" {sign} "b"', f'"b" {other} "c"'
                self.says_expr(f"(a {sign} b) {other} c", f'{held(first, own, level)} {other} "c"')
                self.says_expr(f"a {sign} (b {other} c)", f'"a" {sign} {held(second, level, own + 1)}')


class ToTheByte(Checks, unittest.TestCase):
    def test_blanks_and_letters_of_the_text_are_not_kept(self):
        self.says_expr("\tA+b *\nC-- d", '"a" + "b" * "c"')
        self.says("SELECT a||b<>c AND NOT d", 'select "a" || "b" <> "c" and not "d"')
        self.says_expr("a=b", '"a" = "b"')
        self.says_expr("a<=b", '"a" <= "b"')
        self.says_expr("a  IS  NOT  NULL", 'not "a" is null')

    def test_brackets_that_are_not_needed(self):
        self.says_expr("((a)) + ((b * c))", '"a" + "b" * "c"')
        self.says_expr("(a * b) + (c / d)", '"a" * "b" + "c" / "d"')
        self.says_expr("(a = b) and (c = d)", '"a" = "b" and "c" = "d"')
        self.says_expr("(a and b) or (c and d)", '"a" and "b" or "c" and "d"')
        self.says_expr("not (a = b)", 'not "a" = "b"')
        self.says_expr("(not a) and (not b)", 'not "a" and not "b"')
        self.says_expr("- (f(a))", '- "f"("a")')
        self.says_expr("(- a) * (- b)", '- "a" * - "b"')
        self.says_expr("(a || b) = (c || d)", '"a" || "b" = "c" || "d"')
        self.says_expr("f((a), (b or c))", '"f"("a", "b" or "c")')
        self.says_expr("(((select 1)))", "(select 1)")

    def test_brackets_that_are_needed(self):
        self.says_expr("(a + b) * c", '("a" + "b") * "c"')
        self.says_expr("(a or b) and c", '("a" or "b") and "c"')
        self.says_expr("not (a or b)", 'not ("a" or "b")')
        self.says_expr("(not a) = b", '(not "a") = "b"')
        self.says_expr("a = (not b)", '"a" = (not "b")')
        self.says_expr("(a = b) = (c = d)", '("a" = "b") = ("c" = "d")')
        self.says_expr("(a is null) is null", '("a" is null) is null')
        self.says_expr("- (a + b)", '- ("a" + "b")')
        self.says_expr("- (not a)", '- (not "a")')
        self.says_expr("(a in (b)) in (c)", '("a" in ("b")) in ("c")')
        self.says_expr("a - (b - c)", '"a" - ("b" - "c")')
        self.says_expr("(a || b) + c", '("a" || "b") + "c"')

    def test_brackets_that_the_text_did_not_have(self):
        self.says_expr("a not between b and c", 'not ("a" >= "b" and "a" <= "c")')
        self.says_expr("not a between b and c", 'not ("a" >= "b" and "a" <= "c")')
        self.says_expr("(a between b and c) is null", '("a" >= "b" and "a" <= "c") is null')
        self.says_expr("(a is not null) = (b not like c)", '(not "a" is null) = (not "b" like "c")')
        self.says_expr("(a not in (b)) is true", '(not "a" in ("b")) is true')

    def test_what_between_becomes(self):
        self.says_expr("a between 1 and 2", '"a" >= 1 and "a" <= 2')
        self.says_expr("a || b between c + 1 and - d", '"a" || "b" >= "c" + 1 and "a" || "b" <= - "d"')
        self.says_expr("a between 1 and 2 and b", '"a" >= 1 and "a" <= 2 and "b"')
        self.says_expr("b and a between 1 and 2", '"b" and ("a" >= 1 and "a" <= 2)')
        self.says_expr("b or a between 1 and 2", '"b" or "a" >= 1 and "a" <= 2')
        self.says_expr("a between 1 and 2 or b", '"a" >= 1 and "a" <= 2 or "b"')
        self.says_expr("not a between 1 and 2", 'not ("a" >= 1 and "a" <= 2)')
        self.says_expr("not a not between 1 and 2", 'not not ("a" >= 1 and "a" <= 2)')
        self.says_expr("(a between 1 and 2) between 3 and 4",
                       '("a" >= 1 and "a" <= 2) >= 3 and ("a" >= 1 and "a" <= 2) <= 4')

    def test_what_not_behind_an_operand_becomes(self):
        self.says_expr("a not like b", 'not "a" like "b"')
        self.says_expr("a not found b", 'not "a" found "b"')
        self.says_expr("a not in (b)", 'not "a" in ("b")')
        self.says_expr("a not in (select b)", 'not "a" in (select "b")')
        self.says_expr("a is not null", 'not "a" is null')
        self.says_expr("a is not true", 'not "a" is true')
        self.says_expr("not a not like b", 'not not "a" like "b"')
        self.says_expr("a not like b and c is not true or d", 'not "a" like "b" and not "c" is true or "d"')
        for text in ("like b", "found b", "in (b)", "in (select b)", "between b and c"):
            self.assertEqual(answer(f"select a not {text}"), answer(f"select not a {text}"))

    def test_not_and_minus_in_a_row(self):
        self.says_expr("not not not a", 'not not not "a"')
        self.says_expr("- - - a", '- - - "a"')
        self.says_expr("-(-(-a))", '- - - "a"')
        self.says_expr("a - -b", '"a" - - "b"')
        self.says_expr("not -a = - b", 'not - "a" = - "b"')
        self.says_expr("not (not a and b)", 'not (not "a" and "b")')

    def test_lists(self):
        self.says_expr("a in (b)", '"a" in ("b")')
        self.says_expr("a in(b,c,1 or 2)", '"a" in ("b", "c", 1 or 2)')
        self.says_expr("a in ((b),(c))", '"a" in ("b", "c")')
        self.says_expr("a in (select 1 union select 2 limit 3)", '"a" in (select 1 union select 2 limit 3)')
        self.says_expr("a in ((select 1))", '"a" in ((select 1))')
        self.says_expr("a in ((select 1),b)", '"a" in ((select 1), "b")')

    def test_questions_in_expressions(self):
        self.says_expr("(select a)", '(select "a")')
        self.says_expr("(select a limit 1)", '(select "a" limit 1)')
        self.says_expr("exists(select a)", 'exists (select "a")')
        self.says_expr("exists((select a))", 'exists (select "a")')
        self.says_expr("exists ((select a limit 1) limit 2)", 'exists ((select "a" limit 1) limit 2)')
        self.says_expr("(select a) + (select b)", '(select "a") + (select "b")')
        self.says_expr("not exists (select 1 from t where a = t.a)",
                       'not exists (select 1 from "t" where "a" = "t"."a")')

    def test_case(self):
        self.says_expr("case when a then b end", 'case when "a" then "b" else null end')
        self.says_expr("case when a then b else null end", 'case when "a" then "b" else null end')
        self.says_expr("case when a then b else c end", 'case when "a" then "b" else "c" end')
        self.says_expr("CASE WHEN a THEN b WHEN c or d THEN e ELSE f END",
                       'case when "a" then "b" when "c" or "d" then "e" else "f" end')
        self.says_expr("case when case when a then b end then c end",
                       'case when case when "a" then "b" else null end then "c" else null end')

    def test_cast(self):
        self.says_expr("cast(a as text(9))", 'cast("a" as text(9))')
        self.says_expr("cast ( a or b as exact(5,2) )", 'cast("a" or "b" as exact(5, 2))')

    def test_columns_and_calls(self):
        self.says_expr("t . a", '"t"."a"')
        self.says_expr('"T"."A"', '"T"."A"')
        self.says_expr("t.*", '"t".*')
        self.says_expr("*", "*")
        self.says_expr("f ( )", '"f"()')
        self.says_expr("f ( * )", '"f"(*)')
        self.says_expr("f(a)", '"f"("a")')
        self.says_expr("f (a,b , c)", '"f"("a", "b", "c")')
        self.says_expr("f(distinct a)", '"f"(distinct "a")')
        self.says_expr("f(DISTINCT a,b)", '"f"(distinct "a", "b")')
        self.says_expr("f(g(), g(*))", '"f"("g"(), "g"(*))')

    def test_over(self):
        for call, said in (("f()", '"f"()'), ("f(*)", '"f"(*)'), ("f(a, b)", '"f"("a", "b")'),
                           ("f(distinct a)", '"f"(distinct "a")')):
            self.says_expr(f"{call} over()", f"{said} over ()")
            self.says_expr(f"{call} OVER ( partition by a )", f'{said} over (partition by "a")')
            self.says_expr(f"{call} over (partition by a,b)", f'{said} over (partition by "a", "b")')
            self.says_expr(f"{call} over (order by a)", f'{said} over ( order by "a")')
            self.says_expr(f"{call} over (order by a asc, b desc)", f'{said} over ( order by "a", "b" desc)')
            self.says_expr(f"{call} over (partition by a, b order by c, d desc)",
                           f'{said} over (partition by "a", "b" order by "c", "d" desc)')
            self.says_expr(f"- {call} over () + 1", f"- {said} over () + 1")


if __name__ == "__main__":
    unittest.main()
