"""Each command as it is said, to the byte, with and without what may be missing."""

import itertools
import unittest

from answers import Checks

ALL = (
    ("select 1", "select 1"),
    ("(select 1)", "select 1"),
    ("insert into t values (1)", 'insert into "t" values (1)'),
    ("update t set a=1", 'update "t" set "a" = 1'),
    ("delete from t", 'delete from "t"'),
    ("create table t (c whole)", 'create table "t" ("c" whole)'),
    ("create view v as select 1", 'create view "v" as select 1'),
    ("create index i on t (a)", 'create index "i" on "t" ("a")'),
    ("create text index i on t (a)", 'create text index "i" on "t" ("a")'),
    ("create user u password 'a'", 'create user "u" password \'a\''),
    ("drop user n", 'drop user "n"'),
    ("grant all on t to u", 'grant all on "t" to "u"'),
    ("revoke all on t from u", 'revoke all on "t" from "u"'),
    ("begin", "begin"),
    ("commit", "commit"),
    ("rollback", "rollback"),
    ("savepoint n", 'savepoint "n"'),
    ("execute n", 'execute "n"'),
    ("explain select 1", "explain select 1"),
    ("analyze", "analyze"),
    ("checkpoint", "checkpoint"),
)


class Commands(Checks, unittest.TestCase):
    def test_each_in_small_and_great_letters_and_prepared(self):
        for text, wanted in ALL:
            self.says(text, wanted)
            self.says(f"\n{text}  -- {text}", wanted)
            self.says(f"prepare p as {text}", f'prepare "p" as {wanted}')
            self.says(f'PREPARE "P" AS {text}', f'prepare "P" as {wanted}')
            # What is said has its names in quotes: great letters change nothing else.
            if "'" not in text:
                self.says(text.upper(), wanted)

    def test_insert(self):
        self.says("insert into t values(1)", 'insert into "t" values (1)')
        self.says("insert into t values (1,2),(a or b)", 'insert into "t" values (1, 2), ("a" or "b")')
        self.says("insert into t(a)values(1)", 'insert into "t" ("a") values (1)')
        self.says("insert into t ( a , b ) values (1,2) , (3,4)", 'insert into "t" ("a", "b") values (1, 2), (3, 4)')
        self.says("insert into t select 1", 'insert into "t" select 1')
        self.says("insert into t (a,b) select 1", 'insert into "t" ("a", "b") select 1')
        self.says("insert into t (select 1)", 'insert into "t" select 1')
        self.says("insert into t (a) (select 1)", 'insert into "t" ("a") select 1')
        self.says("insert into t ((select 1) limit 2)", 'insert into "t" select 1 limit 2')
        self.says("insert into t ((select 1 limit 3) limit 2)", 'insert into "t" (select 1 limit 3) limit 2')
        self.says("insert into t (((select 1 limit 3) limit 2) limit 1)",
                  'insert into "t" ((select 1 limit 3) limit 2) limit 1')
        self.says('insert into t ("select") values (1)', 'insert into "t" ("select") values (1)')

    def test_update(self):
        self.says("update t set a=1", 'update "t" set "a" = 1')
        self.says("update t set a=1,b=a=2", 'update "t" set "a" = 1, "b" = "a" = 2')
        self.says("update t set a=(b or c) where (d)", 'update "t" set "a" = "b" or "c" where "d"')
        self.says("update t set a = 1, b = null where a = 2 or b is not null",
                  'update "t" set "a" = 1, "b" = null where "a" = 2 or not "b" is null')

    def test_delete(self):
        self.says("delete from t", 'delete from "t"')
        self.says("delete from t where a=1", 'delete from "t" where "a" = 1')

    def test_create_table_with_columns(self):
        self.says("create table t(c whole)", 'create table "t" ("c" whole)')
        self.says("create table t (c whole not null)", 'create table "t" ("c" whole not null)')
        self.says("create table t (c whole default 1)", 'create table "t" ("c" whole default 1)')
        self.says("create table t (c exact(5,2) not null default 1.5,d text(9))",
                  'create table "t" ("c" exact(5, 2) not null default 1.5, "d" text(9))')
        self.says("create table t (c whole default (a or b))", 'create table "t" ("c" whole default ("a" or "b"))')
        self.says("create table t (c whole default null)", 'create table "t" ("c" whole default null)')
        self.says('create table t ("primary" whole, "check" day)', 'create table "t" ("primary" whole, "check" day)')

    def test_create_table_with_keys(self):
        self.says("create table t (primary key(a))", 'create table "t" (primary key ("a"))')
        self.says("create table t (primary key (a,b))", 'create table "t" (primary key ("a", "b"))')
        self.says("create table t (unique(a))", 'create table "t" (unique ("a"))')
        self.says("create table t (unique (a,b))", 'create table "t" (unique ("a", "b"))')
        self.says("create table t (check(a))", 'create table "t" (check ("a"))')
        self.says("create table t (check ((a or b)))", 'create table "t" (check ("a" or "b"))')
        self.says("create table t (foreign key(a)references u(b))",
                  'create table "t" (foreign key ("a") references "u" ("b"))')
        self.says("create table t (foreign key (a,b) references u (c,d,e))",
                  'create table "t" (foreign key ("a", "b") references "u" ("c", "d", "e"))')
        self.says("create table t (foreign key (a,b,c) references u (d) on delete cascade)",
                  'create table "t" (foreign key ("a", "b", "c") references "u" ("d") on delete cascade)')

    def test_create_table_with_all(self):
        self.says(
            "create table t (c whole not null default 1, primary key (c), d day, unique (c,d), check (c > 1), "
            "foreign key (d) references u (e) on delete cascade, f truth)",
            'create table "t" ("c" whole not null default 1, primary key ("c"), "d" day, unique ("c", "d"), '
            'check ("c" > 1), foreign key ("d") references "u" ("e") on delete cascade, "f" truth)',
        )

    def test_create_index(self):
        self.says("create index i on t(a)", 'create index "i" on "t" ("a")')
        self.says("create index i on t (a,b)", 'create index "i" on "t" ("a", "b")')
        self.says("create unique index i on t(a)", 'create unique index "i" on "t" ("a")')
        self.says("create unique index i on t (a,b,c)", 'create unique index "i" on "t" ("a", "b", "c")')
        self.says("create text index i on t(a)", 'create text index "i" on "t" ("a")')

    def test_create_view_and_user(self):
        self.says("create view v as (select 1)", 'create view "v" as select 1')
        self.says("create view v as (select 1 limit 1) limit 2", 'create view "v" as (select 1 limit 1) limit 2')
        self.says("create user u password ''", 'create user "u" password \'\'')
        self.says("create user u password 'It''s \u20ac\"'", 'create user "u" password \'It\'\'s \u20ac"\'')

    def test_drop(self):
        for word in ("table", "index", "view", "user"):
            self.says(f"drop {word} n", f'drop {word} "n"')
            self.says(f"DROP {word.upper()} {word}", f'drop {word} "{word}"')

    def test_grant_and_revoke(self):
        words = ("select", "insert", "update", "delete")
        self.says("grant all on t to u with grant", 'grant all on "t" to "u" with grant')
        for count in range(1, 5):
            for picked in itertools.permutations(words, count):
                rights = ", ".join([word for word in words if word in picked]) if count < 4 else "all"
                for text in (",".join(picked), " , ".join(picked + picked)):
                    self.says(f"grant {text} on t to u", f'grant {rights} on "t" to "u"')
                    self.says(f"grant {text} on t to u with grant", f'grant {rights} on "t" to "u" with grant')
                    self.says(f"revoke {text} on t from u", f'revoke {rights} on "t" from "u"')

    def test_what_is_begun_and_ended(self):
        self.says("begin", "begin")
        self.says("begin strict", "begin strict")
        self.says("commit", "commit")
        self.says("rollback", "rollback")
        self.says("rollback to n", 'rollback to "n"')
        self.says("savepoint n", 'savepoint "n"')
        self.says("checkpoint", "checkpoint")

    def test_execute_explain_analyze(self):
        self.says("execute n", 'execute "n"')
        self.says("execute n(1)", 'execute "n" (1)')
        self.says("execute n (1,a or b,(c))", 'execute "n" (1, "a" or "b", "c")')
        self.says("explain (select 1)", "explain select 1")
        self.says("explain (select 1 limit 1) union select 2", "explain (select 1 limit 1) union select 2")
        self.says("analyze", "analyze")
        self.says("analyze t", 'analyze "t"')

    def test_prepare(self):
        self.says("prepare p as update t set a=$1 where b=$2",
                  'prepare "p" as update "t" set "a" = $1 where "b" = $2')
        self.says("prepare p as execute q (1)", 'prepare "p" as execute "q" (1)')
        self.says("prepare p as ((select 1 limit 1) limit 2)", 'prepare "p" as (select 1 limit 1) limit 2')


if __name__ == "__main__":
    unittest.main()
