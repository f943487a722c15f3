"""What holds for each call: what is handed in, what comes back, how long a text may be."""

import inspect
import sys
import unittest

from strictask.reading import read, said, tokens

from answers import Checks, answer, as_bytes, ask, num, speech

TEXTS = (
    "select a between 1 and 2, f(distinct $3) over (order by b) from t left join u on c where d limit 5",
    "insert into t (a) values ('it''s', x'00ff', \"q\"\"q\")", "create table t (c exact(5, 2) not null default 1)",
    "select 1 ^", "select", "select '", "(" * 41, "commit", "", "x", "drop t", "select a" + "+a" * 40,
    "select 1 !", "-- a\n \"b\"'c'x'00'$1 1.5e3 <>", "a".ljust(65537), "!" * 65537,
)


class Calls(Checks, unittest.TestCase):
    def test_what_is_handed_in_stays_as_it_was(self):
        for call in (read, said, tokens):
            for text in TEXTS:
                handed = list(as_bytes(text))
                before = list(handed)
                call(handed)
                self.assertEqual(handed, before)

    def test_a_list_of_whole_numbers_comes_back(self):
        for call in (read, said):
            for text in TEXTS:
                given = call(list(as_bytes(text)))
                self.assertIs(type(given), list)
                self.assertTrue(all(type(number) is int for number in given), text)
                self.assertTrue(0 <= given[0] <= 9)
                self.assertTrue(all(0 <= number <= 255 for number in given[1 if given[0] == 0 else 2:]))

    def test_a_list_of_places_and_sorts_comes_back(self):
        for text in TEXTS:
            given = tokens(list(as_bytes(text)))
            self.assertIs(type(given), list)
            self.assertTrue(all(type(number) is int for number in given), text)
            if given[0] == 0:
                places, sorts = given[1::2], given[2::2]
                self.assertEqual(places, sorted(set(places)))
                self.assertEqual((places[-1], sorts[-1]), (len(as_bytes(text)), 7))
                self.assertTrue(all(0 <= sort <= 6 for sort in sorts[:-1]), text)
            else:
                self.assertIn(given[0], (1, 8))
                self.assertEqual(len(given), 2)
                self.assertTrue(0 <= given[1] < len(as_bytes(text)))

    def test_read_and_tokens_tell_the_same_of_tokens(self):
        for text in TEXTS:
            error = read(list(as_bytes(text)))
            wrong = error[0] == 1 or len(as_bytes(text)) > 65536
            self.assertEqual(tokens(list(as_bytes(text)))[:2] == error, wrong, text)

    def test_answers_number_by_number(self):
        self.assertEqual(read(list(b"commit")), [0] + list(b"181()"))
        self.assertEqual(said(list(b"COMMIT ")), [0] + list(b"commit"))
        self.assertEqual(said(list(b"drop table a\n")), [0] + list(b'drop table "a"'))
        self.assertEqual(said(list(b'analyze "\xe2\x82\xac"')), [0] + list(b'analyze "\xe2\x82\xac"'))
        for call in (read, said):
            self.assertEqual(call(list(b"drop t")), [5, 5] + list(b"table"))
            self.assertEqual(call(list(b"select 1 from")), [3, 13])
            self.assertEqual(call(list(b"f")), [7, 0])
            self.assertEqual(call([]), [7, 0])

    def test_a_call_answers_as_if_for_the_first_time(self):
        first = [[call(list(as_bytes(text))) for call in (tokens, read, said)] for text in TEXTS]
        for calls in ((said, read, tokens), (tokens, tokens, said, read), (read, tokens, said)):
            for text, answers in reversed(list(zip(TEXTS, first))):
                for call in calls:
                    self.assertEqual(call(list(as_bytes(text))), answers[(tokens, read, said).index(call)])

    def test_what_came_back_is_the_callers_own(self):
        handed = list(b"select 'a' as b")
        for call in (read, said, tokens):
            given = call(handed)
            wanted = list(given)
            given.clear()
            self.assertEqual(call(handed), wanted)
            self.assertEqual(handed, list(b"select 'a' as b"))

    def test_a_text_of_65536_bytes_and_one_more(self):
        self.tree("select 1".ljust(65536), ask(num(1)))
        self.tree("select 1 " + "-" * 65527, ask(num(1)))
        self.assertEqual(answer("select 1".ljust(65537)), (8, 0, ""))
        self.assertEqual(answer(" " * 65536), (7, 65536, ""))
        self.assertEqual(answer(" " * 65537), (8, 0, ""))
        self.assertEqual(answer("select ".ljust(65536)), (2, 65536, ""))
        self.assertEqual(speech("select 1".ljust(65537)), (8, 0, ""))
        self.assertEqual(speech(" " * 65536), (7, 65536, ""))

    def test_a_text_that_is_too_long_is_told_before_all_else(self):
        for text in (b"!" * 65537, b"'" * 65537, b"\xff" * 100000, b"(" * 100000, b"a " * 50000,
                     b"select 1" + b" " * 99992):
            self.assertEqual(answer(text), (8, 0, ""))
            self.assertEqual(speech(text), (8, 0, ""))
        self.assertEqual(answer(b"!" * 65536), (1, 0, ""))
        self.assertEqual(answer(b" " * 65535 + b"!"), (1, 65535, ""))

    def test_long_lists(self):
        item = "149(128(18(1)) ')"
        self.tree("select 1" + ",1" * 32764, f"160(144(0 145({' '.join([item] * 32765)}) 146() 147() 148() 147()))")
        row = "164(128(18(1)))"
        self.tree("insert into t values (1)" + ",(1)" * 16000, f"161('74 162() 163({' '.join([row] * 16001)}))")
        self.tree("grant select" + ",insert" * 9000 + " on t to u", "178(3 '74 '75 0)")
        self.tree("select case" + " when 1 then 1" * 4500 + " end",
                  ask("138(" + "128(18(1)) 128(18(1)) " * 4500 + "128(16()))"))
        self.tree("create table t (unique (a" + ",a" * 32000 + "))", "168('74 170(0 '61" + " '61" * 32000 + "))")

    def test_what_is_said_of_long_lists(self):
        for text, wanted in (
            ("select 1" + ",1" * 32764, "select 1" + ", 1" * 32764),
            ("insert into t values(1)" + ",(1)" * 16000, 'insert into "t" values (1)' + ", (1)" * 16000),
            ("create table t(unique(a" + ",a" * 32000 + "))",
             'create table "t" (unique ("a"' + ', "a"' * 32000 + "))"),
            ("create table t(a day" + ",a day" * 9000 + ")", 'create table "t" ("a" day' + ', "a" day' * 9000 + ")"),
            ("select case" + " when a then 1" * 4500 + " end",
             "select case" + ' when "a" then 1' * 4500 + " else null end"),
            ("select 1 in (1" + ",1" * 32000 + ")", "select 1 in (1" + ", 1" * 32000 + ")"),
            ("update t set a=1" + ",a=1" * 16000, 'update "t" set "a" = 1' + ', "a" = 1' * 16000),
            ("select 1 group by a" + ",a" * 32000 + " order by 1",
             'select 1 group by "a"' + ', "a"' * 32000 + " order by 1"),
            ("select 1 from t" + ",t" * 32000, 'select 1 from "t"' + ', "t"' * 32000),
            ("select 1 order by a" + ",a" * 32000, 'select 1 order by "a"' + ', "a"' * 32000),
            ("execute f(1" + ",1" * 32000 + ")", 'execute "f" (1' + ", 1" * 32000 + ")"),
        ):
            self.assertEqual(speech(text), wanted)

    def test_what_is_said_may_be_longer_than_a_text(self):
        self.assertEqual(speech("select 1e0" + ",1e0" * 16000),
                         "select 10000000000000000e-16" + ", 10000000000000000e-16" * 16000)
        between = "f(" + "1," * 100 + "1)"
        wanted = '"f"(' + "1, " * 100 + "1)"
        for turn in range(8):
            wanted = f"({wanted})" if turn > 0 else wanted
            between, wanted = f"({between} between 1 and 2)", f"{wanted} >= 1 and {wanted} <= 2"
        self.assertGreater(len(wanted), 65536)
        self.assertEqual(speech(f"select {between}"), f"select {wanted}")
        self.assertEqual(speech(speech(f"select {between}")), (8, 0, ""))

    def test_chains_as_long_as_the_text_goes(self):
        for text in ("select a" + "+a" * 32000, "select a" + " or a" * 13000, "select 1" + " union select 1" * 4000,
                     "select 1 from a" + " join a on a" * 5000):
            self.assertEqual(speech(text), (8, 0, ""))
        self.wrong("(" * 40 + "^" + "(" * 65000, 8)
        self.wrong("select a" + "+a" * 32000 + "^)", 6)

    def test_long_tokens_and_blanks(self):
        self.tree("select " + "0" * 65528 + "1", ask(num(1)))
        self.tree("--\n" * 21800 + "commit", "181()")
        self.wrong("select ^'" + "a" * 65000, 1)
        self.wrong("select ^" + "a" * 65000, 1)
        self.wrong("select ^'" + "''" * 32000, 1)
        self.wrong("select ^$" + "1" * 65000, 1)
        self.wrong("select ^1" + "." + "1" * 65000, 9)
        self.wrong("select a.a^" + ".a" * 32000, 6)

    def deepest_said(self):
        """Trees that are as deep as they may be, or nearly so."""
        for text, wanted in (
            ("select a" + "+a" * 34, 'select "a"' + ' + "a"' * 34),
            ("select " + "a+(" * 34 + "a" + ")" * 34, 'select "a"' + ' + ("a"' * 33 + ' + "a"' + ")" * 33),
            ("select " + "not " * 34 + "a", "select " + "not " * 34 + '"a"'),
            ("select " + "f(" * 34 + "a" + ")" * 34, "select " + '"f"(' * 34 + '"a"' + ")" * 34),
            ("select 1" + " union select 1" * 33, "select 1" + " union select 1" * 33),
            ("(" * 33 + "select 1" + " limit 1)" * 33, "(" * 32 + "select 1" + " limit 1)" * 32 + " limit 1"),
            ("select 1 from a" + " join a on a" * 35, 'select 1 from "a"' + ' join "a" on "a"' * 35),
        ):
            self.assertEqual(speech(text), wanted)
        asked = 'exists (select "f"() over ( order by ' * 4 + "1" + "))" * 4
        self.assertEqual(speech("select " + asked), "select " + asked)

    def test_what_is_deepest_takes_some_hundred_calls(self):
        """Python allows a thousand calls within one another, and some of them are the caller's."""
        allowed = sys.getrecursionlimit()
        sys.setrecursionlimit(len(inspect.stack()) + 600)
        try:
            for begin in ("(", "f(", "f() over (order by ", "(select ", "case when ", "exists (select "):
                self.assertEqual(answer("select " + begin * 41)[0], 8)
                self.assertEqual(answer("select " + ("1 or 1 and 1 = 1 || 1 + 1 * " + begin) * 41)[0], 8)
            for begin in ("not ", "- ", "1 not in (", "1 or 1 in (", "1 from (select "):
                self.assertEqual(answer("select " + begin * 41)[0], 8)
            self.deepest_said()
        finally:
            sys.setrecursionlimit(allowed)


if __name__ == "__main__":
    unittest.main()
