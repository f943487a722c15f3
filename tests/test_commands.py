"""Each command with its whole written tree, with and without what may be missing."""

import unittest

from answers import Checks, ONE, hexed


class Commands(Checks, unittest.TestCase):
    def test_question(self):
        self.tree("select 1", "160(144(0 145(149(128(18(1)) ')) 146() 147() 148() 147()))")
        self.tree("(select 1)", f"160({ONE})")
        self.tree("((select 1) union select 1)", f"160(153(1 {ONE} {ONE}))")

    def test_insert(self):
        self.tree("insert into t values (1)", "161('74 162() 163(164(128(18(1)))))")
        self.tree("insert into t (a) values (1)", "161('74 162('61) 163(164(128(18(1)))))")
        self.tree(
            "insert into t (a, b) values (1, 2), (3, a or b)",
            "161('74 162('61 '62) 163(164(128(18(1)) 128(18(2))) "
            "164(128(18(3)) 132(3 129(' '61) 129(' '62)))))",
        )
        self.tree("insert into t select 1", f"161('74 162() {ONE})")
        self.tree("insert into t (a, b) select 1", f"161('74 162('61 '62) {ONE})")

    def test_insert_with_a_bracket_behind_the_table(self):
        self.tree("insert into t (select 1)", f"161('74 162() {ONE})")
        self.tree("insert into t ((select 1))", f"161('74 162() {ONE})")
        self.tree("insert into t ((select 1) union select 1) limit 1", f"161('74 162() 154(153(1 {ONE} {ONE}) 0 1))")
        self.tree("insert into t (a) (select 1)", f"161('74 162('61) {ONE})")
        self.tree('insert into t ("select") select 1', f"161('74 162({hexed('select')}) {ONE})")

    def test_update(self):
        self.tree("update t set a = 1", "165('74 147() 166('61 128(18(1))))")
        self.tree(
            "update t set a = 1, b = a = 2 where c",
            "165('74 129(' '63) 166('61 128(18(1))) 166('62 132(8 129(' '61) 128(18(2)))))",
        )

    def test_delete(self):
        self.tree("delete from t", "167('74 147())")
        self.tree("delete from t where a", "167('74 129(' '61))")

    def test_create_table_with_columns(self):
        self.tree("create table t (c whole)", "168('74 169('63 1(2 0 0) 0 147()))")
        self.tree("create table t (c whole not null)", "168('74 169('63 1(2 0 0) 1 147()))")
        self.tree("create table t (c whole default 1)", "168('74 169('63 1(2 0 0) 0 128(18(1))))")
        self.tree(
            "create table t (c text(9) not null default a || - 1, d day)",
            "168('74 169('63 1(5 9 0) 1 132(42 129(' '61) 132(21 128(18(1))))) 169('64 1(6 0 0) 0 147()))",
        )
        self.tree("create table t (c truth default (a or b))",
                  "168('74 169('63 1(1 0 0) 0 132(3 129(' '61) 129(' '62))))")

    def test_create_table_with_keys(self):
        self.tree("create table t (primary key (a))", "168('74 170(1 '61))")
        self.tree("create table t (primary key (a, b))", "168('74 170(1 '61 '62))")
        self.tree("create table t (unique (a))", "168('74 170(0 '61))")
        self.tree("create table t (unique (a, b))", "168('74 170(0 '61 '62))")
        self.tree("create table t (check (a or b))", "168('74 171(132(3 129(' '61) 129(' '62))))")
        self.tree("create table t (foreign key (a) references u (b))", "168('74 172(0 '75 1 '61 '62))")
        self.tree(
            "create table t (foreign key (a, b) references u (c, d, e) on delete cascade, c whole)",
            "168('74 172(1 '75 2 '61 '62 '63 '64 '65) 169('63 1(2 0 0) 0 147()))",
        )

    def test_a_part_beginning_with_one_of_the_four_words_is_no_column(self):
        for word, needed in (("primary", "key"), ("foreign", "key"), ("unique", "("), ("check", "(")):
            self.wrong(f"create table t ({word} ^whole)", 5, needed)
            self.tree(f'create table t ("{word}" whole)', f"168('74 169({hexed(word)} 1(2 0 0) 0 147()))")

    def test_create_index(self):
        self.tree("create index i on t (a)", "174('69 '74 0 '61)")
        self.tree("create index i on t (a, b)", "174('69 '74 0 '61 '62)")
        self.tree("create unique index i on t (a, b)", "174('69 '74 1 '61 '62)")
        self.tree("create text index i on t (c)", "175('69 '74 '63)")

    def test_create_view_and_user(self):
        self.tree("create view v as select 1", f"176('76 {ONE})")
        self.tree("create view v as (select 1) limit 2", f"176('76 154({ONE} 0 2))")
        self.tree("create user u password 'it''s'", "177('75 '69742773)")
        self.tree("create user u password ''", "177('75 ')")

    def test_drop(self):
        for number, word in enumerate(("table", "index", "view", "user")):
            self.tree(f"drop {word} n", f"173({number} '6e)")

    def test_grant(self):
        self.tree("grant all on t to u", "178(15 '74 '75 0)")
        self.tree("grant all on t to u with grant", "178(15 '74 '75 1)")
        for number, right in ((1, "select"), (2, "insert"), (4, "update"), (8, "delete")):
            self.tree(f"grant {right} on t to u", f"178({number} '74 '75 0)")
        self.tree("grant delete, update, insert, select on t to u", "178(15 '74 '75 0)")
        self.tree("grant delete, select, delete, delete on t to u with grant", "178(9 '74 '75 1)")

    def test_revoke(self):
        self.tree("revoke all on t from u", "179(15 '74 '75)")
        self.tree("revoke insert, insert, update on t from u", "179(6 '74 '75)")

    def test_what_is_begun_and_ended(self):
        self.tree("begin", "180(0)")
        self.tree("begin strict", "180(1)")
        self.tree("commit", "181()")
        self.tree("rollback", "182(')")
        self.tree("rollback to n", "182('6e)")
        self.tree("savepoint n", "183('6e)")
        self.tree("checkpoint", "188()")

    def test_execute_explain_analyze(self):
        self.tree("execute n", "185('6e)")
        self.tree("execute n (1)", "185('6e 128(18(1)))")
        self.tree("execute n (1, a or b)", "185('6e 128(18(1)) 132(3 129(' '61) 129(' '62)))")
        self.tree("explain select 1", f"186({ONE})")
        self.tree("explain (select 1)", f"186({ONE})")
        self.tree("analyze", "187(')")
        self.tree("analyze t", "187('74)")

    def test_prepare_takes_each_of_the_others(self):
        for text, tree in (
            ("select 1", f"160({ONE})"),
            ("(select 1)", f"160({ONE})"),
            ("insert into t values (1)", "161('74 162() 163(164(128(18(1)))))"),
            ("update t set a = 1", "165('74 147() 166('61 128(18(1))))"),
            ("delete from t", "167('74 147())"),
            ("create view v as select 1", f"176('76 {ONE})"),
            ("create index i on t (a)", "174('69 '74 0 '61)"),
            ("drop user n", "173(3 '6e)"),
            ("grant all on t to u", "178(15 '74 '75 0)"),
            ("revoke all on t from u", "179(15 '74 '75)"),
            ("begin", "180(0)"),
            ("commit", "181()"),
            ("rollback", "182(')"),
            ("savepoint n", "183('6e)"),
            ("execute n", "185('6e)"),
            ("explain select 1", f"186({ONE})"),
            ("analyze", "187(')"),
            ("checkpoint", "188()"),
        ):
            self.tree(f"prepare p as {text}", f"184('70 {tree})")
        self.wrong("prepare p as ^prepare q as commit", 7)

    def test_words_that_are_not_kept_are_names_wherever_a_name_stands(self):
        for word in ("table", "index", "insert", "update", "delete", "grant", "with", "to", "key", "text", "begin",
                     "primary", "default", "asc", "desc", "day", "moment", "whole", "exact", "x", "_", "e1"):
            self.tree(f"savepoint {word}", f"183({hexed(word)})")
            self.tree(f"analyze {word}", f"187({hexed(word)})")
        self.tree("rollback to to", "182('746f)")
        self.tree("update update set set1 = set2", "165('757064617465 147() 166('73657431 129(' '73657432)))")
        self.tree("create user user password 'a'", "177('75736572 '61)")
        self.tree("select index from table",
                  "160(144(0 145(149(129(' '696e646578) ')) 146(150('7461626c65 ')) 147() 148() 147()))")

    def test_words_in_quotes_are_no_words_of_a_command(self):
        self.wrong('^"select" 1', 7)
        self.wrong('begin ^"strict"', 6)
        self.wrong('drop ^"table" n', 5, "table")
        self.wrong('create ^"index" i on t (a)', 5, "index")
        self.wrong('grant ^"select" on t to u', 5, "select")
        self.wrong('select 1 ^"limit" 1', 6)

    def test_words_do_not_change_their_order(self):
        self.wrong("select 1 offset 1 ^limit 1", 6)
        self.wrong("select 1 limit 1 ^order by a", 6)
        self.wrong("select 1 where a ^from t", 6)
        self.wrong("select 1 having a ^group by a", 6)
        self.wrong("create table t (c whole default 1 ^not null)", 5, ")")
        self.wrong("delete from t where a ^where b", 6)


if __name__ == "__main__":
    unittest.main()
