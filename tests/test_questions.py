"""Each part of a question, alone and all together."""

import unittest

from answers import Checks, ONE, asked, col, num, plain

A, B, C = col("a"), col("b"), col("c")
HOWS = (("union", 1), ("union all", 0), ("intersect", 2), ("intersect all", 4), ("except", 3), ("except all", 5))


def select(number):
    """The tree of a question for one number."""
    return asked(plain(num(number)))


class Questions(Checks, unittest.TestCase):
    def question(self, text, tree):
        """The question alone, explained, in brackets, and in an expression."""
        self.tree(text, f"160({tree})")
        self.tree(f"explain {text}", f"186({tree})")
        self.tree(f"({text})", f"160({tree})")
        self.tree(f"select exists ({text})", f"160({asked(plain(f'136({tree})'))})")
        if text.startswith("select"):
            self.tree(f"select ({text})", f"160({asked(plain(f'137({tree})'))})")

    def test_items(self):
        self.question("select a", asked(plain(A)))
        self.question("select a as b", asked(f"149({A} '62)"))
        self.question("select *", asked("131(')"))
        self.question("select t.*", asked("131('74)"))
        self.question('select "T" . *', asked("131('54)"))
        self.question("select a, b as c, *, t.*, a or b as a, t.a",
                      asked(plain(A), f"149({B} '63)", "131(')", "131('74)", f"149(132(3 {A} {B}) '61)",
                            plain("129('74 '61)")))
        self.question("select day.*", asked("131('646179)"))
        self.question("select distinct a", asked(plain(A), distinct=1))
        self.question("select distinct *", asked("131(')", distinct=1))
        self.wrong("select ^", 2)
        self.wrong("select ^from t", 2)
        self.wrong("select distinct ^distinct a", 2)
        self.wrong("select a, ^", 2)
        self.wrong("select a ^b", 6)
        self.wrong("select a as ^", 3)
        self.wrong("select a as ^5", 3)
        self.wrong("select a as ^select", 3)
        self.wrong("select a as b^.c", 6)
        self.wrong("select * ^as a", 6)
        self.wrong("select t.* ^as a", 6)
        self.wrong("select * ^+ 1", 6)
        self.wrong("select t.* ^+ 1", 6)
        self.wrong("select a.b^.*", 6)
        self.wrong("select ^left.*", 2)

    def test_sources(self):
        self.question("select a from t", asked(plain(A), sources="150('74 ')"))
        self.question("select a from t as u", asked(plain(A), sources="150('74 '75)"))
        self.question("select a from t, u as v, t", asked(plain(A), sources="150('74 ') 150('75 '76) 150('74 ')"))
        self.question("select a from (select 1) as u", asked(plain(A), sources=f"151({ONE} '75)"))
        self.question("select a from ((select 1)) as u", asked(plain(A), sources=f"151({ONE} '75)"))
        self.question("select a from ((select 1) union select 2 limit 1) as u",
                      asked(plain(A), sources=f"151(154(153(1 {ONE} {select(2)}) 0 1) '75)"))
        self.wrong("select a from ^", 3)
        self.wrong("select a from ^5", 3)
        self.wrong("select a from ^where b", 3)
        self.wrong("select a from ^select", 3)
        self.wrong("select a from t, ^", 3)
        self.wrong("select a from t ^u", 6)
        self.wrong("select a from t^.u", 6)
        self.wrong("select a from t as ^", 3)
        self.wrong("select a from (^t)", 5, "select")
        self.wrong("select a from (^t join u on a)", 5, "select")
        self.wrong("select a from (select 1^", 5, ")")
        self.wrong("select a from (select 1) ^", 5, "as")
        self.wrong("select a from (select 1) ^u", 5, "as")
        self.wrong("select a from (select 1) as ^", 3)

    def test_joins(self):
        t, u, v = "150('74 ')", "150('75 ')", "150('76 ')"
        for word, how in (("join", 0), ("inner join", 0), ("left join", 1), ("full join", 2)):
            self.question(f"select a from t {word} u on b", asked(plain(A), sources=f"152({how} {t} {u} {B})"))
            self.question(f"select a from t {word} u on b or c {word} v on c, t",
                          asked(plain(A), sources=f"152({how} 152({how} {t} {u} 132(3 {B} {C})) {v} {C}) {t}"))
        self.question("select a from t as u left join (select 1) as v on a full join t as a on b",
                      asked(plain(A), sources=f"152(2 152(1 150('74 '75) 151({ONE} '76) {A}) 150('74 '61) {B})"))
        self.question("select a from (select 1) as v join t on a where b",
                      asked(plain(A), sources=f"152(0 151({ONE} '76) {t} {A})", where=B))
        self.wrong("select a from t join ^", 3)
        self.wrong("select a from t join u ^", 5, "on")
        self.wrong("select a from t join u ^v", 5, "on")
        self.wrong("select a from t join u ^join v on a on b", 5, "on")
        self.wrong("select a from t join u on ^", 2)
        for word in ("inner", "left", "full"):
            self.wrong(f"select a from t {word} ^u on b", 5, "join")
            self.wrong(f"select a from t {word} ^", 5, "join")
        self.wrong("select a from t ^on a", 6)
        self.wrong("select a from t ^right join u on a", 6)

    def test_where_group_having(self):
        self.question("select a where b", asked(plain(A), where=B))
        self.question("select a where b or c", asked(plain(A), where=f"132(3 {B} {C})"))
        self.question("select a group by b", asked(plain(A), groups=B))
        self.question("select a group by b, c or a", asked(plain(A), groups=f"{B} 132(3 {C} {A})"))
        self.question("select a having b", asked(plain(A), having=B))
        self.wrong("select a where ^", 2)
        self.wrong("select a group ^b", 5, "by")
        self.wrong("select a group by ^", 2)
        self.wrong("select a group by b, ^", 2)
        self.wrong("select a having ^", 2)

    def test_all_parts_together(self):
        self.question(
            "select distinct a, * from t as u join v on a, t where b group by a, b having c "
            "union all (select 1) order by a, b desc limit 3 offset 4",
            "154(153(0 " + asked(plain(A), "131(')", distinct=1,
                                 sources=f"152(0 150('74 '75) 150('76 ') {A}) 150('74 ')", where=B,
                                 groups=f"{A} {B}", having=C)
            + f" {ONE}) 4 3 155({A} 0) 155({B} 1))",
        )

    def test_unions(self):
        for word, how in HOWS:
            self.question(f"select 1 {word} select 2", f"153({how} {ONE} {select(2)})")
            self.question(f"select 1 {word} (select 2 {word} select 3)",
                          f"153({how} {ONE} 153({how} {select(2)} {select(3)}))")
            self.wrong(f"select 1 {word} ^", 5, "select")
            self.wrong(f"select 1 {word} ^t", 5, "select")
            self.wrong(f"select 1 {word} ^distinct select 2", 5, "select")
            self.wrong(f"select 1 {word} (^t)", 5, "select")
            for other, number in HOWS:
                self.question(f"select 1 {word} select 2 {other} select 3",
                              f"153({number} 153({how} {ONE} {select(2)}) {select(3)})")
        self.wrong("select 1 union all ^all select 1", 5, "select")

    def test_questions_in_brackets(self):
        self.question("(select 1)", ONE)
        self.question("(((select 1)))", ONE)
        self.question("(select 1) union (select 2)", f"153(1 {ONE} {select(2)})")
        self.question("((select 1) union select 2) except select 3",
                      f"153(3 153(1 {ONE} {select(2)}) {select(3)})")
        self.question("(select 1 limit 2)", f"154({ONE} 0 2)")
        self.question("(select 1 limit 2) limit 3", f"154(154({ONE} 0 2) 0 3)")
        self.question("(select 1 order by a) union select 2 order by b",
                      f"154(153(1 154({ONE} 0 -1 155({A} 0)) {select(2)}) 0 -1 155({B} 0))")
        self.wrong("(^)", 5, "select")
        self.wrong("(^5)", 5, "select")
        self.wrong("((^a))", 5, "select")
        self.wrong("(select 1^", 5, ")")
        self.wrong("(select 1 ^a)", 5, ")")
        self.wrong("(select 1)^)", 6)

    def test_order_by(self):
        self.question("select 1 order by a", f"154({ONE} 0 -1 155({A} 0))")
        self.question("select 1 order by a asc", f"154({ONE} 0 -1 155({A} 0))")
        self.question("select 1 order by a desc", f"154({ONE} 0 -1 155({A} 1))")
        self.question("select 1 order by a desc, b asc, c or a",
                      f"154({ONE} 0 -1 155({A} 1) 155({B} 0) 155(132(3 {C} {A}) 0))")
        self.question("select 1 order by asc asc, desc desc",
                      f"154({ONE} 0 -1 155({col('asc')} 0) 155({col('desc')} 1))")
        self.question("select 1 union select 2 order by a", f"154(153(1 {ONE} {select(2)}) 0 -1 155({A} 0))")
        self.wrong("select 1 order ^a", 5, "by")
        self.wrong("select 1 order by ^", 2)
        self.wrong("select 1 order by a, ^", 2)
        self.wrong("select 1 order by a asc ^desc", 6)
        self.wrong("select 1 order by a ^union select 2", 6)

    def test_limit_and_offset(self):
        self.question("select 1 limit 5", f"154({ONE} 0 5)")
        self.question("select 1 limit 0", f"154({ONE} 0 0)")
        self.question("select 1 offset 5", f"154({ONE} 5 -1)")
        self.question("select 1 limit 5 offset 6", f"154({ONE} 6 5)")
        self.question("select 1 limit 5 offset 0", f"154({ONE} 0 5)")
        self.question("select 1 limit 0 offset 0", f"154({ONE} 0 0)")
        self.question("select 1 order by a limit 5 offset 6", f"154({ONE} 6 5 155({A} 0))")
        self.question("select 1 order by a offset 0", f"154({ONE} 0 -1 155({A} 0))")
        self.question("select 1 limit 9223372036854775807 offset 9223372036854775807",
                      f"154({ONE} 9223372036854775807 9223372036854775807)")
        self.question("select 1 limit 0007", f"154({ONE} 0 7)")

    def test_an_offset_0_alone_is_not_told(self):
        self.question("select 1 offset 0", ONE)
        self.question("select 1 offset 000", ONE)
        self.question("select 1 union select 2 offset 0", f"153(1 {ONE} {select(2)})")
        self.question("(select 1 limit 1) offset 0", f"154({ONE} 0 1)")

    def test_counts(self):
        for word in ("limit", "offset"):
            for text in ("", "a", "-1", "$1", "'1'", "(1)", "all", "null", "x'00'"):
                self.wrong(f"select 1 {word} ^{text}", 2)
            for text in ("1.0", "1e0", "0e0", "9223372036854775808", "9" * 36, "9" * 5000):
                self.wrong(f"select 1 {word} ^{text}", 9)
            self.wrong(f"select 1 {word} 1 ^+ 1", 6)
            self.wrong(f"select 1 {word} 1 ^{word} 1", 6)


if __name__ == "__main__":
    unittest.main()
