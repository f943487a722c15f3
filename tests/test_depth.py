"""How deep a text may be: each thing that takes one, at the last place that is allowed and one further."""

import unittest

from answers import Checks, answer, ask, asked, col, num, plain

A = col("a")


def deepened(count, begin, inner, end):
    return begin * count + inner + end * count


class Taking(Checks, unittest.TestCase):
    def taken(self, begin, at, end, inner="a"):
        """What begins and ends so takes one of the depth, and its token stands behind at bytes of the beginning."""
        # Of 40 select itself takes one.
        self.assertIsInstance(answer("select " + "(" * 38 + begin + inner + end + ")" * 38), str, begin)
        self.wrong("select " + "(" * 39 + begin[:at] + "^" + begin[at:] + inner + end + ")" * 39, 8)

    def test_each_thing_that_takes_one(self):
        self.taken("(", 0, ")")
        self.taken("not ", 0, "")
        self.taken("- ", 0, "")
        self.taken("case when ", 0, " then 1 end")
        self.taken("case when 1 then ", 0, " end")
        self.taken("case when 1 then 1 else ", 0, " end")
        self.taken("cast(", 0, " as whole)")
        self.taken("f(", 1, ")")
        self.taken("f (distinct ", 2, ")")
        self.taken("f(", 1, ")", inner="")
        self.taken("f(", 1, ")", inner="*")
        self.taken("f(1, ", 1, ")")
        self.taken("a in (", 2, ")")
        self.taken("a not in (1, ", 6, ")")

    def test_over(self):
        for inner in ("", "partition by a", "order by a desc", "partition by a order by a"):
            front = "select " + "(" * 38
            self.assertIsInstance(answer(front + f"f() over ({inner})" + ")" * 38), str)
            # The call's own bracket is told first, for it comes first.
            self.assertEqual(answer("select " + "(" * 39 + f"f() over ({inner})" + ")" * 39), (8, 47, ""))
        for inner in ("partition by f(1)", "order by f(1)", "partition by a, f(1)"):
            self.assertIsInstance(answer("select " + "(" * 37 + f"f() over ({inner})" + ")" * 37), str)
            self.wrong("select " + "(" * 38 + f"f() over ({inner})".replace("f(1", "f^(1") + ")" * 38, 8)

    def test_a_call_that_is_closed_leaves_its_one_to_over(self):
        inner = "f((a)) over (order by (a))"
        self.assertIsInstance(answer("select " + "(" * 37 + inner + ")" * 37), str)
        self.wrong("select " + "(" * 38 + "f(^(a)) over (order by (a))" + ")" * 38, 8)
        self.wrong("select " + "(" * 38 + "f(a) over (order by ^(a))" + ")" * 38, 8)

    def test_a_question_in_an_expression_takes_two(self):
        for begin in ("(select ", "exists (select ", "a in (select ", "a not in (select "):
            front = "select " + "(" * 37
            self.assertIsInstance(answer(front + begin + "a)" + ")" * 37), str)
            self.wrong(front + "(" + begin.replace("select", "^select") + "a)" + ")" * 38, 8)
        self.wrong("select " + "(" * 39 + "^(select 1)" + ")" * 39, 8)
        self.wrong("select " + "(" * 39 + "^exists (select 1)" + ")" * 39, 8)
        self.wrong("select " + "(" * 39 + "a ^in (select 1)" + ")" * 39, 8)
        self.wrong("select " + "(" * 39 + "a not ^in (select 1)" + ")" * 39, 8)

    def test_in_cast_and_exists_are_told_at_their_words_whatever_follows(self):
        front = "select " + "(" * 39
        for text in ("a ^in", "a ^in b", "a ^in ()", "a not ^in 5", "^cast", "^cast a", "^cast()", "^exists",
                     "^exists a", "^exists (a)", "^case", "^case a", "^not", "^-", "^(", "f^(", "f^(,", "^not )"):
            self.wrong(front + text, 8)
        front = "select " + "(" * 38
        self.wrong(front + "a in ^b", 5, "(")
        self.wrong(front + "cast ^b", 5, "(")
        self.wrong(front + "exists ^b", 5, "(")
        self.wrong(front + "case ^b", 5, "when")

    def test_what_takes_nothing(self):
        front = "select " + "(" * 39
        for inner in ("a", "a.b", "$1", "null", "1.5", "day '2000-01-01'", "x'00'", "a + b", "a is not null",
                      "a not like b", "a not between b and c", "a is not true", "a - b", "a = b and c or a || b"):
            self.assertIsInstance(answer(front + inner + ")" * 39), str, inner)

    def test_what_was_taken_is_given_back(self):
        for text in ("(a)", "not a", "- a", "case when a then a end", "cast(a as whole)", "f(a)", "a in (a)",
                     "f() over (order by a)", "(select a)", "exists (select a)", "a in (select a)",
                     "(select a from (select a) as b)"):
            self.assertIsInstance(answer("select " + ", ".join([text] * 50)), str, text)
        self.assertIsInstance(answer("select 1 from " + ", ".join(["(select 1) as a"] * 50)), str)
        self.assertIsInstance(answer("select 1" + " union select 1" * 30), str)
        self.assertIsInstance(answer("(select 1)" + " union (select 1)" * 30), str)

    def test_terms(self):
        self.assertEqual(answer(deepened(39, "(", "select 1", ")")), "160(" + asked(plain(num(1))) + ")")
        self.wrong("(" * 39 + "select ^(1)" + ")" * 39, 8)
        self.wrong("(" * 40 + "^select 1" + ")" * 40, 8)
        self.wrong("(" * 40 + "^(select 1)" + ")" * 40, 8)
        self.wrong("(" * 40 + "^(", 8)
        self.wrong("(" * 40 + "^", 5, "select")
        self.wrong("(" * 40 + "^a", 5, "select")
        self.wrong("explain " + "(" * 40 + "^select 1", 8)
        self.wrong("insert into t " + "(" * 40 + "^select 1", 8)
        self.wrong("(" * 39 + "select 1 union " + "(^select 1)", 8)

    def test_keys_stand_outside_the_terms(self):
        self.assertIsInstance(answer("select 1 order by " + "(" * 40 + "a" + ")" * 40), str)
        self.wrong("select 1 order by " + "(" * 40 + "^(a", 8)
        self.assertIsInstance(answer("select 1 where " + "(" * 39 + "a" + ")" * 39), str)
        self.wrong("select 1 where " + "(" * 39 + "^(a", 8)

    def test_sources(self):
        for count in range(8):
            self.assertIsInstance(answer(deepened(count, "select 1 from (", "select 1", ") as a")), str)
        # Each takes two, the term and the bracket, until none is left for a last one.
        self.wrong("select a from (" * 20 + "^select a", 8)
        self.wrong("select a from (" * 19 + "(select a from ^(select a", 8)
        self.wrong("select a from (" * 19 + "select (^(", 8)
        self.wrong("select a from " + "(" * 39 + "^(", 8)
        self.wrong("select a from " + "(" * 39 + "^select a", 8)
        self.assertIsInstance(answer("select a from " + "(" * 38 + "select a" + ")" * 38 + " as b"), str)

    def test_brackets_of_commands_take_nothing(self):
        for begin, end in (("insert into t values (", ")"), ("insert into t (a) values (1), (2, ", ")"),
                           ("execute n (", ")"), ("update t set a = ", ""), ("delete from t where ", ""),
                           ("create table t (check (", "))"), ("create table t (c whole default ", ")")):
            self.assertIsInstance(answer(begin + "(" * 40 + "a" + ")" * 40 + end), str, begin)
            self.wrong(begin + "(" * 40 + "^(a" + ")" * 41 + end, 8)
        self.assertIsInstance(answer("select cast(" + "(" * 38 + "a" + ")" * 38 + " as exact(5, 2))"), str)

    def test_on_takes_nothing(self):
        self.assertIsInstance(answer("select 1 from t join u on " + "(" * 39 + "a" + ")" * 39), str)
        self.wrong("select 1 from t join u on " + "(" * 39 + "^(a", 8)

    def test_as_long_as_the_text_goes(self):
        self.wrong("(" * 40 + "^" + "(" * 65000, 8)
        self.wrong("select " + "(" * 39 + "^" + "(" * 65000, 8)
        self.wrong("select " + "not " * 39 + "^" + "not " * 16000, 8)
        self.wrong("select " + "- " * 39 + "^" + "- " * 30000, 8)
        self.wrong("select " + "case when " * 39 + "^" + "case when " * 6000, 8)
        self.wrong("select " + "f(" * 39 + "f^(" + "f(" * 30000, 8)
        self.wrong("select " + "a in (" * 39 + "a ^in (" + "a in (" * 10000, 8)
        self.wrong("select " + "cast(" * 39 + "^" + "cast(" * 10000, 8)
        self.wrong("select " + "exists (select " * 19 + "exists (" + "^select " + "exists (select " * 4000, 8)
        self.wrong("select a from (" * 20 + "^select a from (" * 1 + "select a from (" * 4000, 8)


class Trees(Checks, unittest.TestCase):
    def test_a_tree_that_is_40_deep_and_one_that_is_more(self):
        # The tree of select a is 6 deep; each operator makes it one deeper.
        self.tree("select a" + "+a" * 34, ask("132(16 " * 34 + A + f" {A})" * 34))
        self.assertEqual(answer("select a" + "+a" * 35), (8, 0, ""))
        self.assertIsInstance(answer("select " + "not " * 34 + "a"), str)
        self.assertEqual(answer("select " + "not " * 35 + "a"), (8, 0, ""))
        self.assertIsInstance(answer("select " + "not " * 34 + "null"), str)
        self.assertEqual(answer("select " + "not " * 35 + "null"), (8, 0, ""))
        self.assertIsInstance(answer("select " + "not " * 33 + "1"), str)
        self.assertEqual(answer("select " + "not " * 34 + "1"), (8, 0, ""))

    def test_what_stands_around_counts_too(self):
        for begin, most in (("explain select a", 34), ("prepare n as select a", 33), ("select a where a", 36),
                            ("create view v as select a", 34), ("insert into t select a", 34)):
            self.assertIsInstance(answer(begin + "+a" * most), str, begin)
            self.assertEqual(answer(begin + "+a" * (most + 1)), (8, 0, ""), begin)
        self.tree("delete from t where a" + "+a" * 37, "167('74 " + "132(16 " * 37 + A + f" {A})" * 37 + ")")
        self.assertEqual(answer("delete from t where a" + "+a" * 38), (8, 0, ""))

    def test_brackets_make_no_tree_deeper(self):
        self.tree("select " + "(" * 39 + "a" + ")" * 39, ask(A))
        self.assertIsInstance(answer("select " + "(" * 39 + "a" + ")" * 39 + "+a" * 34), str)

    def test_lists_make_no_tree_deeper(self):
        self.assertIsInstance(answer("select a" + ",a" * 1000), str)
        self.assertIsInstance(answer("select case" + " when a then a" * 1000 + " end"), str)

    def test_chains_as_long_as_the_text_goes(self):
        for text in ("select a" + "+a" * 32000, "select a" + " or a" * 13000, "select a" + "||a" * 20000,
                     "select 1" + " union select 1" * 4000, "select 1 from a" + " join a on a" * 5000):
            self.assertEqual(answer(text), (8, 0, ""))

    def test_another_error_is_told_before_the_tree_is_too_deep(self):
        self.wrong("select a" + "+a" * 50 + " ^b", 6)
        self.wrong("select a" + "+a" * 50 + ", ^", 2)
        self.wrong("select a" + "+a" * 32000 + "^)", 6)

    def test_between_has_its_operand_twice(self):
        text = "a"
        for turn in range(38):
            text = f"({text} between 1 and 2)"
        self.wrong(f"select {text} limit ^x", 2)
        self.assertEqual(answer(f"select {text}"), (8, 0, ""))

    def test_joins_and_unions_deepen_the_tree(self):
        self.assertIsInstance(answer("select a" + " union select a" * 34), str)
        self.assertEqual(answer("select a" + " union select a" * 35), (8, 0, ""))
        self.assertIsInstance(answer("select 1 from a" + " join a on b" * 35), str)
        self.assertEqual(answer("select 1 from a" + " join a on b" * 36), (8, 0, ""))


if __name__ == "__main__":
    unittest.main()
