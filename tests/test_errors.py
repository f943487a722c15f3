"""Each error's number with its place and its word or sign."""

import unittest

from answers import Checks


class Errors(Checks, unittest.TestCase):
    def test_1_no_token(self):
        self.wrong("^!", 1)
        self.wrong("select 1 ^'a", 1)
        self.wrong("commit ^;", 1)

    def test_2_an_expression_must_stand_there(self):
        self.wrong("select ^", 2)
        self.wrong("select ^)", 2)
        self.wrong("select 1, ^from t", 2)
        self.wrong("insert into t values (^)", 2)
        self.wrong("insert into t values (1, ^)", 2)
        self.wrong("update t set a = ^", 2)
        self.wrong("update t set a = ^where b", 2)
        self.wrong("update t set a = 1 where ^", 2)
        self.wrong("delete from t where ^", 2)
        self.wrong("create table t (c whole default ^)", 2)
        self.wrong("create table t (c whole default ^not a)", 2)
        self.wrong("create table t (check (^))", 2)
        self.wrong("execute n (^)", 2)
        self.wrong("execute n (1, ^)", 2)

    def test_2_a_password(self):
        self.wrong("create user u password ^", 2)
        self.wrong("create user u password ^secret", 2)
        self.wrong("create user u password ^\"secret\"", 2)
        self.wrong("create user u password ^x'00'", 2)
        self.wrong("create user u password ^5", 2)
        self.wrong("create user u password ^('a')", 2)

    def test_3_a_name(self):
        for text in ("insert into ^", "insert into t (^)", "insert into t (a, ^)", "insert into t (^5)",
                     "insert into t (^values (1))", "update ^", "update ^set a = 1", "update t set ^",
                     "update t set a = 1, ^where b", "delete from ^", "delete from ^where", "create table ^",
                     "create table ^(c whole)", "create table t (^)", "create table t (^5 whole)",
                     "create table t (c whole, ^)", "create table t (primary key (^))",
                     "create table t (unique (a, ^))", "create table t (foreign key (^) references u (a))",
                     "create table t (foreign key (a) references ^(a))",
                     "create table t (foreign key (a) references u (^))", "create index ^on t (a)",
                     "create index i on ^(a)", "create index i on t (^)", "create index i on t (a, ^1)",
                     "create unique index ^", "create text index ^on", "create text index i on ^",
                     "create text index i on t (^)", "create view ^as select 1", "create user ^'a'", "drop table ^",
                     "drop index ^1", "drop view ^values", "drop user ^'a'", "grant all on ^on",
                     "grant all on t to ^", "revoke all on ^", "revoke all on t from ^", "rollback to ^", "savepoint ^",
                     "execute ^", "execute ^(1)", "prepare ^as commit", "prepare ^"):
            self.wrong(text, 3)

    def test_4_a_kind(self):
        self.wrong("create table t (c ^)", 4)
        self.wrong("create table t (c ^number)", 4)
        self.wrong("select cast(1 as ^number)", 4)

    def test_5_the_word_or_sign(self):
        for text, word in (
            ("insert ^t", "into"), ("insert ^", "into"), ("update t ^a = 1", "set"), ("update t set a ^1", "="),
            ("update t set a ^<= 1", "="), ("update t set a^.b = 1", "="), ("delete ^t", "from"),
            ("insert into t values ^1", "("), ("insert into t values (1^", ")"), ("insert into t values (1 ^2)", ")"),
            ("insert into t values (1), ^", "("), ("insert into t (a^", ")"), ("insert into t (a ^b)", ")"),
            ("create table t ^c whole", "("), ("create table t^", "("), ("create table t (c whole^", ")"),
            ("create table t (c whole ^null)", ")"), ("create table t (c whole not ^)", "null"),
            ("create table t (c whole not ^default 1)", "null"), ("create table t (c whole not null ^not null)", ")"),
            ("create table t (c whole default a ^= b)", ")"), ("create table t (c whole default a ^or b)", ")"),
            ("create table t (c whole default a ^is null)", ")"),
            ("create table t (c whole default 1 ^default 2)", ")"),
            ("create table t (primary ^(a))", "key"), ("create table t (primary key ^a)", "("),
            ("create table t (primary key (a^", ")"), ("create table t (unique ^key (a))", "("),
            ("create table t (check ^a)", "("), ("create table t (check (a^, b))", ")"),
            ("create table t (foreign ^(a))", "key"), ("create table t (foreign key ^a)", "("),
            ("create table t (foreign key (a) ^on u)", "references"),
            ("create table t (foreign key (a) references u^)", "("),
            ("create table t (foreign key (a) references u (b) on ^update cascade)", "delete"),
            ("create table t (foreign key (a) references u (b) on delete ^)", "cascade"),
            ("create table t (foreign key (a) references u (b) ^delete cascade)", ")"),
            ("create unique ^i", "index"), ("create unique ^text index i", "index"), ("create text ^i", "index"),
            ("create text ^view", "index"), ("create index i ^t (a)", "on"), ("create index i on t ^a", "("),
            ("create index i on t (a^", ")"), ("create text index i ^t", "on"), ("create text index i on t ^", "("),
            ("create text index i on t (a^, b)", ")"), ("create view v ^select 1", "as"),
            ("create user u ^'a'", "password"), ("grant all ^t to u", "on"), ("grant all^, select on t to u", "on"),
            ("grant select ^insert on t to u", "on"), ("grant all on t ^from u", "to"),
            ("grant all on t to u with ^option", "grant"), ("revoke all ^t", "on"), ("revoke all on t ^to u", "from"),
            ("execute n (1^", ")"), ("execute n (1 ^2)", ")"), ("prepare n ^commit", "as"), ("prepare n^", "as"),
        ):
            self.wrong(text, 5, word)

    def test_5_where_several_would_do(self):
        self.wrong("select a is ^", 5, "null")
        self.wrong("select a is not ^", 5, "null")
        self.wrong("select a not ^", 5, "in")
        for command in ("grant", "revoke"):
            self.wrong(f"{command} ^", 5, "select")
            self.wrong(f"{command} ^on t", 5, "select")
            self.wrong(f"{command} ^drop on t", 5, "select")
            self.wrong(f"{command} select, ^", 5, "select")
            self.wrong(f"{command} select, ^all on t", 5, "select")
        for text in ("explain ^", "explain ^t", "explain ^commit", "explain ^explain select 1", "create view v as ^",
                     "create view v as ^values (1)", "select 1 union ^", "select exists (^t)", "(^t)",
                     "select a from (^t)"):
            self.wrong(text, 5, "select")
        for text in ("insert into t ^", "insert into t ^set a = 1", "insert into t (a) ^", "insert into t (a) ^a",
                     "insert into t (a, b) ^default", "insert into t (a) (^b)", "insert into t ((^a))",
                     "insert into t (a) (^values (1))"):
            self.wrong(text, 5, "select")
        for text in ("drop ^", "drop ^t", "drop ^unique index i", "drop ^text index i", "drop ^select"):
            self.wrong(text, 5, "table")
        for text in ("create ^", "create ^t", "create ^select", "create ^(a)", "create ^5"):
            self.wrong(text, 5, "index")

    def test_6_the_text_must_have_ended(self):
        for text in ("select 1 ^1", "select 1 ^select 1", "select 1 ^a", "select 1^)", "commit ^commit", "commit ^work",
                     "begin ^a", "begin strict ^strict", "rollback ^a", "rollback to a ^b", "savepoint a ^b",
                     "checkpoint ^a", "analyze a ^b", "analyze ^select", "analyze ^5", "analyze t^.a",
                     "drop table a^, b",
                     "drop table a^.b", "execute n ^a", "execute n (1) ^2", "delete from t ^as u", "delete from t^, u",
                     "update t set a = 1 ^b", "update t set a = 1 where b ^c", "insert into t values (1) ^(2)",
                     "insert into t values (1) ^limit 1", "create table t (c whole) ^a", "create view v as select 1 ^a",
                     "create user u password 'a' ^'b'", "create index i on t (a) ^b", "create text index i on t (a) ^b",
                     "grant all on t to u ^grant", "grant all on t to u with grant ^a", "grant all on t to u^, v",
                     "revoke all on t from u ^with grant", "explain select 1 ^a", "prepare n as commit ^a",
                     "select a = b ^= c", "select f() ^f()"):
            self.wrong(text, 6)

    def test_7_a_command_must_begin(self):
        for text in ("^", "  ^", "-- select 1^", "^a", "^1", "^'select'", "^values (1)", "^)", "^,", "^as", "^table t",
                     "^\"commit\"", "^$1", "^x'00'", "^selects 1", "^end", "^union select 1"):
            self.wrong(text, 7)
            self.wrong("prepare n as " + text, 7)

    def test_8_and_9(self):
        self.wrong("select " + "(" * 39 + "^(1", 8)
        self.wrong("select ^1e999", 9)
        self.wrong("select day ^''", 9)

    def test_the_first_that_is_wrong_is_told(self):
        self.wrong("select ^from where limit 1.5", 2)
        self.wrong("select a as ^5, 1e999", 3)
        self.wrong("select cast(a as ^b) not c", 4)
        self.wrong("select a is ^b, day 'x'", 5, "null")
        self.wrong("select 1 ^limits 1.5", 6)
        self.wrong("^selects from", 7)
        self.wrong("select ^1e999 from", 9)
        self.wrong("select 1 limit ^1.5 limit", 9)

    def test_at_the_end_the_place_is_that_of_all_bytes(self):
        for end in ("", " ", "\n\n", " -- a", "--", "\t-- \u00e9\n"):
            self.wrong(f"select{end}^", 2)
            self.wrong(f"savepoint{end}^", 3)
            self.wrong(f"drop{end}^", 5, "table")
            self.wrong(f"{end}^", 7)

    def test_places_are_counted_in_bytes(self):
        self.wrong("select '\u00e9\u20ac' ^a", 6)
        self.wrong("select \"\U0001f600\", ^", 2)
        self.wrong("-- \u20ac\u20ac\n ^a", 7)


if __name__ == "__main__":
    unittest.main()
