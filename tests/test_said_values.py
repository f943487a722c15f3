"""Each value as it is said, to the byte, and the kinds that are written."""

import datetime
import decimal
import random
import struct
import unittest

from answers import Checks, speech

NINES = "9" * 36


def real_of(bits):
    """The binary64 with these bits."""
    return struct.unpack(">d", struct.pack(">Q", bits))[0]


def digits_of(real):
    """The real as it's to be said, found with Python's own decimal numbers."""
    if real == 0:
        return "0e0"
    whole = decimal.Decimal(real)
    tens = whole.adjusted() - 16
    with decimal.localcontext() as context:
        context.prec = 1200
        digits = whole.scaleb(-tens).quantize(decimal.Decimal(1), rounding=decimal.ROUND_HALF_UP)
    return f"{int(digits)}e{tens}"


class Numbers(Checks, unittest.TestCase):
    def test_whole(self):
        self.says_expr("0", "0")
        self.says_expr("000", "0")
        self.says_expr("7", "7")
        self.says_expr("0012", "12")
        self.says_expr("100", "100")
        self.says_expr("9223372036854775807", "9223372036854775807")
        self.says_expr("-5", "- 5")
        self.says_expr("0" * 5000 + "10", "10")

    def test_exact_without_places(self):
        self.says_expr("9223372036854775808", "9223372036854775808")
        self.says_expr(NINES, NINES)
        self.says_expr("00" + NINES, NINES)

    def test_exact_with_places(self):
        self.says_expr("1.5", "1.5")
        self.says_expr("1.50", "1.50")
        self.says_expr("001.50", "1.50")
        self.says_expr("120.0", "120.0")
        self.says_expr("10.05", "10.05")
        self.says_expr("9" * 35 + ".9", "9" * 35 + ".9")
        self.says_expr("9." + "9" * 35, "9." + "9" * 35)

    def test_exact_with_as_many_places_as_digits(self):
        self.says_expr("0.5", "0.5")
        self.says_expr("0.50", "0.50")
        self.says_expr("00.12", "0.12")
        self.says_expr("0." + NINES, "0." + NINES)

    def test_exact_with_more_places_than_digits(self):
        self.says_expr("0.05", "0.05")
        self.says_expr("0.050", "0.050")
        self.says_expr("0.0", "0.0")
        self.says_expr("000.000", "0.000")
        self.says_expr("0.001", "0.001")
        self.says_expr("0." + "0" * 35 + "1", "0." + "0" * 35 + "1")
        self.says_expr("0." + "0" * 36, "0." + "0" * 36)

    def test_reals(self):
        for text, wanted in (
            ("1e0", "10000000000000000e-16"), ("1.5e0", "15000000000000000e-16"), ("25e0", "25000000000000000e-15"),
            ("2.5e1", "25000000000000000e-15"), ("0.1e0", "10000000000000001e-17"), ("1E+16", "10000000000000000e0"),
            ("12345678901234567e0", "12345678901234568e0"), ("1e17", "10000000000000000e1"),
            ("1e15", "10000000000000000e-1"), ("9e-1", "90000000000000002e-17"), ("3e-5", "30000000000000001e-21"),
            ("1e23", "99999999999999992e6"), ("1e22", "10000000000000000e6"), ("125e200", "12500000000000000e186"),
        ):
            self.says_expr(text, wanted)

    def test_the_real_0(self):
        for text in ("0e0", "0.000e0", "0e9999", "0e-999", "1e-999", "2.4703282292062327e-324"):
            self.says_expr(text, "0e0")

    def test_the_smallest_and_the_greatest_real(self):
        self.says_expr("4.9e-324", "49406564584124654e-340")
        self.says_expr("1e-323", "98813129168249309e-340")
        self.says_expr("2.2250738585072011e-308", "22250738585072009e-324")
        self.says_expr("2.2250738585072014e-308", "22250738585072014e-324")
        self.says_expr("1.7976931348623157e308", "17976931348623157e292")
        self.says_expr("1.7976931348623158e308", "17976931348623157e292")

    def test_a_real_that_is_rounded_half_way_up(self):
        self.says_expr("1000000000000000.25e0", "10000000000000003e-1")
        self.says_expr("1000000000000000.75e0", "10000000000000008e-1")
        self.says_expr("1000000000000001.25e0", "10000000000000013e-1")
        self.says_expr("2000000000000000.25e0", "20000000000000003e-1")
        # Seventeen digits without what is behind, for what is behind is less than half.
        self.says_expr("100000000000000.125e0", "10000000000000013e-2")
        self.says_expr("100000000000000.0625e0", "10000000000000006e-2")

    def test_a_real_that_is_rounded_up_to_eighteen_digits(self):
        for tens in (-305, -243, -176, -175, -174, -79, -78, -73, -70, -14, 98, 129, 153, 220):
            self.says_expr(f"1e{tens}", f"100000000000000000e{tens - 17}")
        for tens in (-15, -13, 97, 99):
            self.assertEqual(speech(f"select 1e{tens}"), f"select {digits_of(float(f'1e{tens}'))}")
            self.assertEqual(len(digits_of(float(f"1e{tens}")).partition("e")[0]), 17)

    def test_powers_of_ten_and_of_two(self):
        for tens in range(-340, 309):
            self.says_expr(f"1e{tens}", digits_of(float(f"1e{tens}")))
        for twos in range(0, 2047):
            real = real_of(twos << 52)
            self.assertEqual(speech(f"select {real:.20e}"), f"select {digits_of(real)}")

    def test_reals_by_chance(self):
        chance = random.Random(11)
        for turn in range(4000):
            bits = chance.randrange(9218868437227405312)
            if turn % 4 == 0:
                bits >>= chance.randint(1, 62)
            real = real_of(bits)
            self.says_expr(f"{real:.17e}", digits_of(real))

    def test_reals_of_few_digits_by_chance(self):
        chance = random.Random(12)
        for turn in range(2000):
            text = f"{chance.randint(1, 10 ** chance.randint(1, 20))}e{chance.randint(-30, 30)}"
            self.says_expr(text, digits_of(float(text)))


class OtherValues(Checks, unittest.TestCase):
    def test_null_and_truths(self):
        self.says_expr("null", "null")
        self.says_expr("NULL", "null")
        self.says_expr("true", "true")
        self.says_expr("False", "false")

    def test_texts(self):
        self.says_expr("'a'", "'a'")
        self.says_expr("''", "''")
        self.says_expr("'it''s'", "'it''s'")
        self.says_expr("''''", "''''")
        self.says_expr("'''a'''''", "'''a'''''")
        self.says_expr("'a\"b\"\"'", "'a\"b\"\"'")
        self.says_expr("'A -- b\n\t\r\0 c'", "'A -- b\n\t\r\0 c'")
        self.says_expr("'\u00e9\u20ac\U0001f600'", "'\u00e9\u20ac\U0001f600'")
        self.says_expr("'" + "''" * 4096 + "'", "'" + "''" * 4096 + "'")

    def test_bytes(self):
        self.says_expr("x'00ff'", "x'00ff'")
        self.says_expr("X'0a'", "x'0a'")
        self.says_expr("x''", "x''")
        every = bytes(range(256)).hex()
        self.says_expr(f"x'{every}'", f"x'{every}'")
        self.says_expr(f"x'{'9f' * 4096}'", f"x'{'9f' * 4096}'")

    def test_given_values(self):
        for number in range(1, 65):
            self.says_expr(f"${number}", f"${number}")

    def test_values_with_others_around(self):
        self.says_expr("'a','b',x'',null,$1,1.0", "'a', 'b', x'', null, $1, 1.0")
        self.says_expr("- - 1.5", "- - 1.5")
        self.says_expr("1-1", "1 - 1")
        self.says_expr("1- -1e0", "1 - - 10000000000000000e-16")


class Calendar(Checks, unittest.TestCase):
    def test_days(self):
        for day in ("2000-01-01", "1970-01-01", "1970-01-02", "1969-12-31", "0001-01-01", "0001-12-31", "0004-02-29",
                    "0400-12-31", "0401-01-01", "1600-02-29", "1900-02-28", "1900-03-01", "2000-02-29", "2024-12-31",
                    "2100-02-28", "9999-01-01", "9999-12-31"):
            self.says_expr(f"day '{day}'", f"day '{day}'")
            self.says_expr(f"DAY\n'{day}'", f"day '{day}'")

    def test_the_first_and_the_last_day_of_each_year(self):
        for year in range(1, 10000):
            text = f"select day '{year:04}-01-01', day '{year:04}-12-31', day '{year:04}-03-01'"
            self.assertEqual(speech(text), text)

    def test_each_day_of_some_years(self):
        for year in (1, 4, 100, 400, 1969, 1970, 1972, 1999, 2000, 9999):
            days = datetime.date(year, 12, 31).timetuple().tm_yday
            first = datetime.date(year, 1, 1).toordinal()
            for ordinal in range(first, first + days):
                text = f"select day '{datetime.date.fromordinal(ordinal).isoformat()}'"
                self.assertEqual(speech(text), text)

    def test_moments_without_microseconds(self):
        for moment in ("2000-01-01 00:00:00", "1970-01-01 00:00:00", "1969-12-31 23:59:59", "0001-01-01 00:00:00",
                       "0001-01-01 00:00:01", "9999-12-31 23:59:59", "2024-02-29 12:34:56", "1960-07-08 09:10:11"):
            self.says_expr(f"moment '{moment}'", f"moment '{moment}'")
            self.says_expr(f"moment '{moment}.0'", f"moment '{moment}'")
            self.says_expr(f"Moment '{moment}.000000'", f"moment '{moment}'")

    def test_moments_with_microseconds(self):
        for text, wanted in ((".5", ".500000"), (".000001", ".000001"), (".999999", ".999999"), (".12", ".120000"),
                             (".0001", ".000100"), (".123456", ".123456")):
            for moment in ("2000-01-01 00:00:00", "1969-12-31 23:59:59", "0001-01-01 00:00:00",
                           "9999-12-31 23:59:59", "1970-01-01 00:00:00"):
                self.says_expr(f"moment '{moment}{text}'", f"moment '{moment}{wanted}'")

    def test_moments_by_chance(self):
        chance = random.Random(13)
        first = datetime.datetime(1, 1, 1)
        for turn in range(2000):
            moment = first + datetime.timedelta(days=chance.randrange(3652059), seconds=chance.randrange(86400))
            text = f"select moment '{moment.isoformat(' ')}'"
            self.assertEqual(speech(text), text)
            moment += datetime.timedelta(microseconds=chance.randrange(1, 1000000))
            text = f"select moment '{moment.isoformat(' ')}'"
            self.assertEqual(speech(text), text)


class Kinds(Checks, unittest.TestCase):
    def test_each_kind(self):
        for text, wanted in (
            ("truth", "truth"), ("WHOLE", "whole"), ("exact(5,2)", "exact(5, 2)"),
            ("exact ( 36 , 36 )", "exact(36, 36)"), ("exact(1,0)", "exact(1, 0)"), ("Real", "real"),
            ("text(9)", "text(9)"), ("text (4096)", "text(4096)"),
            ("text(001)", "text(1)"), ("day", "day"), ("moment", "moment"), ("bytes(1)", "bytes(1)"),
            ("bytes ( 4096 )", "bytes(4096)"),
        ):
            self.says_expr(f"cast(a as {text})", f'cast("a" as {wanted})')
            self.says(f"create table t (c {text})", f'create table "t" ("c" {wanted})')
            self.says(f"create table t (c {text} not null default 1)",
                      f'create table "t" ("c" {wanted} not null default 1)')


class Names(Checks, unittest.TestCase):
    def test_names_always_in_quotes(self):
        for text, wanted in (("a", '"a"'), ("Abc_1", '"abc_1"'), ('"a"', '"a"'), ('"A b"', '"A b"'),
                             ('"select"', '"select"'), ("table", '"table"'), ("day", '"day"'), ("x", '"x"'),
                             ("e1", '"e1"'), ("_", '"_"'), ('"\u20ac"', '"\u20ac"'), ('"."', '"."')):
            self.says_expr(text, wanted)
            self.says_expr(f"{text} . {text}", f"{wanted}.{wanted}")
            self.says_expr(f"{text} . *", f"{wanted}.*")
            self.says_expr(f"{text} ()", f"{wanted}()")
            self.says(f"savepoint {text}", f"savepoint {wanted}")
            self.says(f"select 1 as {text} from {text} as {text}", f"select 1 as {wanted} from {wanted} as {wanted}")

    def test_quotes_inside(self):
        self.says_expr('"a""b"', '"a""b"')
        self.says_expr('""""', '""""')
        self.says_expr('"it\'s"', '"it\'s"')
        self.says_expr('"' + '""' * 64 + '"', '"' + '""' * 64 + '"')
        self.says('analyze """t"""', 'analyze """t"""')


if __name__ == "__main__":
    unittest.main()
