"""Each error of read, as said answers it. (The other tests ask said for each error that they ask read for, too.)"""

import unittest

from answers import Checks, answer, place_of, speech

WRONG = (
    (1, "", ("^!", "select ^'a", "select 1 ^;", "select ^\"\"", "select ^x'0'", "select ^$65", "select ^1a",
             "select '\u00e9', ^!", "^\u20ac")),
    (2, "", ("select ^", "select a + ^", "select 1 where ^", "select 1 limit ^a", "create user u password ^u",
             "insert into t values (^)", "update t set a = ^", "select f(^,)", "select not ^)")),
    (3, "", ("drop table ^", "select a as ^1", "insert into ^values", "select 1 from ^1", "rollback to ^select")),
    (4, "", ("create table t (c ^number)", "select cast(1 as ^a)", "select cast(1 as ^text(0))",
             "create table t (c ^exact(2, 3))")),
    (5, "table", ("drop ^t", "drop ^")),
    (5, "index", ("create ^t", "create unique ^i", "create text ^")),
    (5, "select", ("explain ^", "grant ^t", "select 1 union ^", "insert into t ^", "(^a)")),
    (5, "null", ("select a is ^", "select a is not ^b", "create table t (c whole not ^)")),
    (5, "in", ("select a not ^", "select a not ^= b")),
    (5, "(", ("select cast ^a", "insert into t values ^1", "select a in ^b")),
    (5, ")", ("select (a ^b)", "select f(a^", "create table t (c whole default a ^= b)")),
    (5, "and", ("select a between b ^or c",)),
    (5, "=", ("update t set a ^1",)),
    (5, ",", ("select cast(a as exact(5^))",)),
    (5, "cascade", ("create table t (foreign key (a) references u (b) on delete ^)",)),
    (6, "", ("select 1 ^1", "commit ^work", "select a = b ^= c", "select 1^)", "(select 1) ^a")),
    (7, "", ("^", " ^", "^a", "^1", "prepare n as ^", "prepare n as ^prepare m as commit")),
    (8, "", ("select " + "(" * 39 + "^(1", "(" * 40 + "^select 1", "select " + "not " * 39 + "^not a",
             "^select a" + "+a" * 35, "^" + " " * 65537, "^" + "!" * 100000)),
    (9, "", ("select ^1e999", "select day ^'x'", "select 1 limit ^1.5", "select ^" + "9" * 37,
             "select moment ^'2000-01-01'", "select ^0." + "0" * 37)),
)


class Errors(Checks, unittest.TestCase):
    def test_each_error(self):
        for number, word, texts in WRONG:
            for text in texts:
                self.wrong(text, number, word)
                clean, place = place_of("^", text)
                self.assertEqual(speech(clean), (number, place, word))
                self.assertEqual(speech(f" \n{clean}"), answer(f" \n{clean}"))

    def test_each_number_is_among_them(self):
        self.assertEqual(sorted({number for number, word, texts in WRONG}), list(range(1, 10)))

    def test_nothing_is_said_of_what_is_wrong_at_its_end(self):
        for text in ("select 1, 'a', b from t where c limit 3 ^x", "insert into t values (1), (2) ^3",
                     "create table t (c whole) ^d"):
            self.wrong(text, 6)


if __name__ == "__main__":
    unittest.main()
