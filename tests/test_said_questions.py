"""Each part of a question as it is said, alone and all together, to the byte."""

import unittest

from answers import Checks

UNIONS = ("union", "union all", "intersect", "intersect all", "except", "except all")


class QuestionChecks(Checks):
    """To be mixed into a TestCase."""

    def question(self, text, wanted):
        """The question alone, in brackets, and in each place where a question may stand."""
        self.says(text, wanted)
        self.says(f"(({text}))", wanted)
        self.says(f"explain {text}", f"explain {wanted}")
        self.says(f"create view v as {text}", f'create view "v" as {wanted}')
        self.says(f"insert into t {text}", f'insert into "t" {wanted}')
        self.says(f"insert into t (a) {text}", f'insert into "t" ("a") {wanted}')
        self.says(f"select exists ({text})", f"select exists ({wanted})")
        self.says(f"select 1 from ({text}) as q", f'select 1 from ({wanted}) as "q"')
        if text.startswith("select"):
            self.says(f"select ({text})", f"select ({wanted})")
            self.says(f"select a in ({text})", f'select "a" in ({wanted})')


class Parts(QuestionChecks, unittest.TestCase):
    def test_items(self):
        self.question("select a", 'select "a"')
        self.question("select  a ,b,  1+2", 'select "a", "b", 1 + 2')
        self.question("select a as b", 'select "a" as "b"')
        self.question("select a or b AS c, d", 'select "a" or "b" as "c", "d"')
        self.question("select *", "select *")
        self.question("select t . *", 'select "t".*')
        self.question("select *,t.*,*", 'select *, "t".*, *')
        self.question("select distinct a", 'select distinct "a"')
        self.question("select distinct *,a as b", 'select distinct *, "a" as "b"')

    def test_sources(self):
        self.question("select 1 from t", 'select 1 from "t"')
        self.question("select 1 from t as u", 'select 1 from "t" as "u"')
        self.question("select 1 from t,u as v,t", 'select 1 from "t", "u" as "v", "t"')
        self.question("select 1 from (select 2) as q", 'select 1 from (select 2) as "q"')
        self.question("select 1 from (((select 2))) as q", 'select 1 from (select 2) as "q"')
        self.question("select 1 from (select 2 limit 3) as q,(select a from t) as r",
                      'select 1 from (select 2 limit 3) as "q", (select "a" from "t") as "r"')
        self.question("select 1 from ((select 2 limit 3) limit 4) as q",
                      'select 1 from ((select 2 limit 3) limit 4) as "q"')
        self.question("select 1 from ((select 2) union (select 3)) as q",
                      'select 1 from (select 2 union select 3) as "q"')

    def test_joins(self):
        for text, word in (("join", "join"), ("inner join", "join"), ("INNER\nJOIN", "join"),
                           ("left join", "left join"), ("full  join", "full join")):
            self.question(f"select 1 from t {text} u on a", f'select 1 from "t" {word} "u" on "a"')
            self.question(f"select 1 from t as v {text} u as w on v.a=w.b or c",
                          f'select 1 from "t" as "v" {word} "u" as "w" on "v"."a" = "w"."b" or "c"')
            self.question(f"select 1 from t {text} (select 2) as q on a",
                          f'select 1 from "t" {word} (select 2) as "q" on "a"')
            self.question(f"select 1 from (select 2) as q {text} t on a",
                          f'select 1 from (select 2) as "q" {word} "t" on "a"')
            self.question(f"select 1 from t {text} u on a {text} v on b, w",
                          f'select 1 from "t" {word} "u" on "a" {word} "v" on "b", "w"')
        self.question("select 1 from t join u on a left join v on b full join w on c, x inner join y on d",
                      'select 1 from "t" join "u" on "a" left join "v" on "b" full join "w" on "c", '
                      '"x" join "y" on "d"')

    def test_where_group_having(self):
        self.question("select 1 where a or b", 'select 1 where "a" or "b"')
        self.question("select 1 group by a", 'select 1 group by "a"')
        self.question("select 1 group  by a,b or c", 'select 1 group by "a", "b" or "c"')
        self.question("select 1 having a and b", 'select 1 having "a" and "b"')
        self.question("select 1 where (a) group by (b) having (c)", 'select 1 where "a" group by "b" having "c"')
        self.question("select 1 from t having a", 'select 1 from "t" having "a"')
        self.question("select 1 from t group by a", 'select 1 from "t" group by "a"')

    def test_order_by(self):
        self.question("select 1 order by a", 'select 1 order by "a"')
        self.question("select 1 order by a asc", 'select 1 order by "a"')
        self.question("select 1 order by a desc", 'select 1 order by "a" desc')
        self.question("select 1 order by a desc,b asc,c or d,e DESC",
                      'select 1 order by "a" desc, "b", "c" or "d", "e" desc')
        self.question("select 1 order by asc asc, desc desc", 'select 1 order by "asc", "desc" desc')

    def test_limit_and_offset(self):
        self.question("select 1 limit 5", "select 1 limit 5")
        self.question("select 1 limit 0", "select 1 limit 0")
        self.question("select 1 limit 007", "select 1 limit 7")
        self.question("select 1 offset 5", "select 1 offset 5")
        self.question("select 1 offset 0", "select 1")
        self.question("select 1 limit 5 offset 6", "select 1 limit 5 offset 6")
        self.question("select 1 limit 5 offset 0", "select 1 limit 5")
        self.question("select 1 limit 0 offset 0", "select 1 limit 0")
        self.question("select 1 order by a offset 0", 'select 1 order by "a"')
        self.question("select 1 order by a limit 5", 'select 1 order by "a" limit 5')
        self.question("select 1 order by a offset 5", 'select 1 order by "a" offset 5')
        self.question("select 1 order by a limit 5 offset 6", 'select 1 order by "a" limit 5 offset 6')
        self.question("select 1 limit 9223372036854775807 offset 9223372036854775807",
                      "select 1 limit 9223372036854775807 offset 9223372036854775807")

    def test_all_parts_together(self):
        self.question(
            "select distinct a, t.*, b+1 as c from t as u inner join (select 1 limit 2) as v on u.a = v.b, w "
            "where a and b group by a, b having c or d union all (select 2 order by a) except (select 3 from w) "
            "order by a asc, b desc limit 3 offset 4",
            'select distinct "a", "t".*, "b" + 1 as "c" from "t" as "u" join (select 1 limit 2) as "v" '
            'on "u"."a" = "v"."b", "w" where "a" and "b" group by "a", "b" having "c" or "d" '
            'union all (select 2 order by "a") except select 3 from "w" order by "a", "b" desc limit 3 offset 4',
        )


class Terms(QuestionChecks, unittest.TestCase):
    def test_terms_without_brackets(self):
        for word in UNIONS:
            self.question(f"select 1 {word} select 2", f"select 1 {word} select 2")
            self.question(f"select 1 {word} (select 2)", f"select 1 {word} select 2")
            self.question(f"select 1 {word} ((select 2))", f"select 1 {word} select 2")
            for other in UNIONS:
                self.question(f"select 1 {word} select 2 {other} select 3",
                              f"select 1 {word} select 2 {other} select 3")
        for word in UNIONS:
            self.says(f"(select 1) {word} (select 2)", f"select 1 {word} select 2")
            self.says(f"(select 1 {word} select 2) {word} select 3", f"select 1 {word} select 2 {word} select 3")
        self.says("(select 1) UNION\tALL (select 2)", "select 1 union all select 2")

    def test_a_right_term_in_brackets(self):
        for word in UNIONS:
            for other in UNIONS:
                self.question(f"select 1 {word} (select 2 {other} select 3)",
                              f"select 1 {word} (select 2 {other} select 3)")
            self.question(f"select 1 {word} (select 2 {word} (select 3 {word} select 4)) {word} select 5",
                          f"select 1 {word} (select 2 {word} (select 3 {word} select 4)) {word} select 5")
            for part in ("order by \"a\"", "limit 3", "offset 3", "order by \"a\" limit 3 offset 4"):
                self.question(f"select 1 {word} (select 2 {part})", f"select 1 {word} (select 2 {part})")
                self.question(f"select 1 {word} (((select 2 {part})))", f"select 1 {word} (select 2 {part})")
            self.question(f"select 1 {word} (select 2 offset 0)", f"select 1 {word} select 2")

    def test_a_left_term_in_brackets(self):
        for word in UNIONS:
            for part in ("order by \"a\"", "limit 3", "offset 3", "order by \"a\" desc limit 3 offset 4"):
                self.says(f"(select 1 {part}) {word} select 2", f"(select 1 {part}) {word} select 2")
                self.says(f"((select 1 {part})) {word} (select 2)", f"(select 1 {part}) {word} select 2")
                self.says(f"(select 1 {part}) {word} (select 2 {part}) {part}",
                          f"(select 1 {part}) {word} (select 2 {part}) {part}")
                self.says(f"(select 1 {word} select 2 {part}) {word} select 3",
                          f"(select 1 {word} select 2 {part}) {word} select 3")
                self.says(f"select exists ((select 1 {part}) {word} select 2)",
                          f"select exists ((select 1 {part}) {word} select 2)")
                self.says(f"insert into t (select 1 {part}) {word} select 2",
                          f'insert into "t" (select 1 {part}) {word} select 2')
            self.says(f"(select 1 offset 0) {word} select 2", f"select 1 {word} select 2")

    def test_ordered_again(self):
        parts = ("order by \"a\"", "limit 3", "offset 3", "order by \"a\" desc limit 3 offset 4")
        for first in parts:
            self.says(f"(select 1 {first})", f"select 1 {first}")
            self.says(f"(select 1 {first}) offset 0", f"select 1 {first}")
            for second in parts:
                self.says(f"(select 1 {first}) {second}", f"(select 1 {first}) {second}")
                self.says(f"((select 1 {first})) {second}", f"(select 1 {first}) {second}")
                self.says(f"((select 1 {first}) {second}) {first}", f"((select 1 {first}) {second}) {first}")
                self.says(f"(select 1 union select 2 {first}) {second}", f"(select 1 union select 2 {first}) {second}")
                self.says(f"create view v as (select 1 {first}) {second}",
                          f'create view "v" as (select 1 {first}) {second}')

    def test_what_is_ordered_once(self):
        self.says("(select 1) order by a", 'select 1 order by "a"')
        self.says("(select 1 union select 2) limit 3", "select 1 union select 2 limit 3")
        self.says("((select 1) union (select 2)) order by a limit 3", 'select 1 union select 2 order by "a" limit 3')


if __name__ == "__main__":
    unittest.main()
