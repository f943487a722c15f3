"""Values at their bounds and one beyond, and the kinds that are written."""

import datetime
import random
import struct
import unittest

from answers import Checks, answer, ask, col, hexed, num

NINES = "9" * 36
TEN_TO_36 = "1" + "0" * 36


def bits_of(text):
    """The bits of the binary64 that Python reads."""
    return struct.unpack(">Q", struct.pack(">d", float(text)))[0]


def real(text):
    return f"128(20({bits_of(text)}))"


class Numbers(Checks, unittest.TestCase):
    def test_digits_alone(self):
        self.expr("0", "128(18(0))")
        self.expr("9223372036854775807", "128(18(9223372036854775807))")
        self.expr("9223372036854775808", "128(19(9223372036854775808 0))")
        self.expr(NINES, f"128(19({NINES} 0))")
        self.expr("0" * 5000 + "9223372036854775807", "128(18(9223372036854775807))")
        self.expr("0" * 5000 + NINES, f"128(19({NINES} 0))")
        self.expr("0" * 60000, "128(18(0))")
        self.wrong(f"select ^{TEN_TO_36}", 9)
        self.wrong(f"select 1 + ^{TEN_TO_36} from", 9)
        self.wrong("select ^" + "9" * 60000, 9)

    def test_a_number_below_0_is_a_minus_and_a_number(self):
        self.expr("-9223372036854775808", "132(21 128(19(9223372036854775808 0)))")
        self.expr("-9223372036854775807", "132(21 128(18(9223372036854775807)))")

    def test_with_a_point(self):
        self.expr("0.0", "128(19(0 1))")
        self.expr("1.50", "128(19(150 2))")
        self.expr("001.5", "128(19(15 1))")
        self.expr("0.05", "128(19(5 2))")
        self.expr("0." + "0" * 35 + "1", "128(19(1 36))")
        self.expr("0." + NINES, f"128(19({NINES} 36))")
        self.expr("9." + "9" * 35, f"128(19({NINES} 35))")
        self.expr("9" * 35 + ".9", f"128(19({NINES} 1))")
        self.expr("0" * 5000 + ".5", "128(19(5 1))")
        self.wrong("select ^0." + "0" * 37, 9)
        self.wrong("select ^0." + "0" * 36 + "1", 9)
        self.wrong("select ^1." + "0" * 36, 9)
        self.wrong(f"select ^1.{NINES}", 9)
        self.wrong(f"select ^{NINES}.0", 9)
        self.wrong("select ^1." + "0" * 60000, 9)

    def test_with_e(self):
        for text in ("1e0", "1e5", "1.5e3", "12.5E-3", "0e0", "0.000e0", "1e23", "1e22", "123456789e-9", "1e+308",
                     "1e-308", "0e9999", "0e-999", "1e-999", "5e-324", "001e3", "1e0001", "1e-001"):
            self.expr(text, real(text))

    def test_e_and_what_is_infinite(self):
        self.expr("1.7976931348623157e308", "128(20(9218868437227405311))")
        self.expr("1.7976931348623158e308", "128(20(9218868437227405311))")
        self.expr("179769313486231580793728971405303415e273", "128(20(9218868437227405311))")
        self.wrong("select ^1.7976931348623159e308", 9)
        self.wrong("select ^179769313486231580793728971405303416e273", 9)
        for text in ("1e309", "1e400", "1e401", "1e999", "1e9999", "1e+999", NINES + "e999"):
            self.wrong(f"select ^{text}", 9)

    def test_e_and_what_is_smallest(self):
        self.expr("2.4703282292062327e-324", "128(20(0))")
        self.expr("2.4703282292062328e-324", "128(20(1))")
        self.expr("4.9e-324", "128(20(1))")
        self.expr("2.2250738585072014e-308", "128(20(4503599627370496))")
        self.expr("2.2250738585072011e-308", "128(20(4503599627370495))")
        self.expr(NINES + "e-359", real(NINES + "e-359"))
        self.expr(NINES + "e-360", "128(20(0))")
        self.expr(NINES + "e-436", "128(20(0))")
        self.expr("0." + "9" * 35 + "e-400", "128(20(0))")
        self.expr("0." + "0" * 34 + "1e342", real("1e307"))

    def test_of_two_as_near_the_even_one(self):
        for text, bits in (
            ("9007199254740993e0", 4845873199050653696), ("9007199254740995e0", 4845873199050653698),
            ("9007199254740993.0e0", 4845873199050653696), ("9007199254740993.0000001e0", 4845873199050653697),
            ("9007199254740992.9999999e0", 4845873199050653696), ("18014398509481986e0", 4850376798678024192),
            ("18014398509481990e0", 4850376798678024194), ("1.5e-323", 3),
            ("0.99999999999999994e0", 4607182418800017407), ("0.99999999999999995e0", 4607182418800017408),
        ):
            self.assertEqual(bits_of(text), bits)
            self.expr(text, f"128(20({bits}))")

    def test_digits_before_e_and_bytes_behind_it(self):
        self.expr(NINES + "e0", real(NINES + "e0"))
        self.expr("0" * 35 + "1e0", real("1e0"))
        self.expr("0." + "0" * 34 + "1e0", real("1e-35"))
        for digits in ("0" * 36 + "1", "0" * 37, NINES + ".0", "1." + "0" * 36, "0." + "0" * 36, TEN_TO_36):
            self.wrong(f"select ^{digits}e0", 9)
        for behind in ("0000", "+000", "-999", "9"):
            self.expr(f"0e{behind}", "128(20(0))")
        for behind in ("00000", "+0000", "-9999", "10000", "-0000", "0" * 60000):
            self.wrong(f"select ^0e{behind}", 9)

    def test_reals_as_python_reads_them(self):
        chance = random.Random(5)
        for turn in range(3000):
            digits = "".join([chance.choice("0123456789") for place in range(chance.randint(1, 36))])
            point = chance.randint(1, len(digits))
            text = digits[:point] + ("." + digits[point:] if digits[point:] else "")
            text += f"e{chance.randint(-360, 300)}"
            if float(text) == float("inf"):
                self.wrong(f"select ^{text}", 9)
            else:
                self.assertEqual(answer(f"select {text}"), ask(real(text)), text)

    def test_halves_between_two_reals(self):
        chance = random.Random(6)
        for turn in range(500):
            # An odd number of 54 bits lies in the middle between two binary64.
            middle = (1 << 53) + 2 * chance.randrange(1 << 52) + 1
            for text in (f"{middle}e0", f"{middle}.0000000000000000001e0", f"{middle - 1}.9999999999e0",
                         f"{middle * 5}e-1", f"{middle * 1024}e0"):
                self.assertEqual(answer(f"select {text}"), ask(real(text)), text)


class OtherValues(Checks, unittest.TestCase):
    def test_words(self):
        self.expr("null", "128(16())")
        self.expr("true", "128(17(1))")
        self.expr("false", "128(17(0))")
        self.expr("TRUE", "128(17(1))")
        self.expr('"null"', col("null"))

    def test_texts_and_bytes(self):
        self.expr("''", "128(21('))")
        self.expr("'a'", "128(21('61))")
        self.expr("x''", "128(24('))")
        self.expr("x'61'", "128(24('61))")

    def test_days(self):
        for text, days in (("1970-01-01", 0), ("1970-01-02", 1), ("1969-12-31", -1), ("2000-01-01", 10957),
                           ("0001-01-01", -719162), ("9999-12-31", 2932896), ("2000-02-29", 11016),
                           ("2024-02-29", 19782), ("1600-02-29", -135081), ("2023-02-28", 19416)):
            self.expr(f"day '{text}'", f"128(22({days}))")
        self.expr("DAY\n--'\n'1970-01-01'", "128(22(0))")

    def test_every_kind_of_day_as_python_has_it(self):
        for year in (1, 2, 4, 5, 99, 100, 101, 400, 401, 1582, 1601, 1700, 1899, 1900, 1901, 1968, 1970, 2000, 2001,
                     2026, 9999):
            for month in range(0, 14):
                for day in (0, 1, 15, 28, 29, 30, 31, 32):
                    text = f"{year:04}-{month:02}-{day:02}"
                    try:
                        days = datetime.date(year, month, day).toordinal() - 719163
                        self.expr(f"day '{text}'", f"128(22({days}))")
                    except ValueError:
                        self.wrong(f"select day ^'{text}'", 9)

    def test_what_is_no_day(self):
        for text in ("", "0000-01-01", "2001-02-29", "1900-02-29", "2000-00-01", "2000-13-01", "2000-01-00",
                     "2000-01-32", "2000-04-31", "2000-1-01", "2000-01-1", "200-01-01", "02000-01-01", "10000-01-01",
                     "2000-01-01 ", " 2000-01-01", "2000/01/01", "20000101", "2000-01-0a", "-001-01-01", "+200-01-01",
                     "2000-01-01 00:00:00", "2000-01 01", "2000 01-01", "abcd-ef-gh", "2000-01--1",
                     "2000-01-0\u0661", "\u0662000-01-01", "2000-1/-01", "2000-0:-01"):
            self.wrong(f"select day ^'{text}'", 9)
            self.wrong(f"select 1 + day ^'{text}' from", 9)

    def test_moments(self):
        for text, count in (
            ("1970-01-01 00:00:00", 0), ("1970-01-01 00:00:01", 1000000), ("1969-12-31 23:59:59", -1000000),
            ("1970-01-01 00:00:00.000001", 1), ("1970-01-01 00:00:00.1", 100000), ("1970-01-01 00:00:00.12", 120000),
            ("1970-01-01 00:00:00.123", 123000), ("1970-01-01 00:00:00.1234", 123400),
            ("1970-01-01 00:00:00.12345", 123450), ("1970-01-01 00:00:00.123456", 123456),
            ("1970-01-01 00:00:00.0", 0), ("1969-12-31 23:59:59.999999", -1),
            ("1970-01-02 23:59:59.999999", 172799999999), ("1970-01-01 01:02:03", 3723000000),
            ("0001-01-01 00:00:00", -62135596800000000), ("9999-12-31 23:59:59.999999", 253402300799999999),
        ):
            self.expr(f"moment '{text}'", f"128(23({count}))")

    def test_what_is_no_moment(self):
        for text in ("", "1970-01-01", "1970-01-01 ", "1970-01-01 24:00:00", "1970-01-01 00:60:00",
                     "1970-01-01 00:00:60", "1970-01-01 0:00:00", "1970-01-01 00:00", "1970-01-01T00:00:00",
                     "1970-01-01 00:00:00.", "1970-01-01 00:00:00.1234567", "1970-01-01 00:00:00,1",
                     "1970-01-01 00:00:00.a", "1970-01-01 00:00:00.1 ", "1970-01-01 00:00:00.-1",
                     "1970-01-01 00:00:0a", "1970-01-01 00:00:1", "1970-01-01 00:00:1/", "1970-01-01 00:00:0:",
                     "1970-01-01 0a:00:00", "1970-01-01 00:0a:00", "1970-01-01  00:00:00",
                     "1970-01-01 00-00:00", "1970-01-01 00:00-00", "1970-02-30 00:00:00", "0000-01-01 00:00:00",
                     "1970-01-01 00:00:00 ", "1970-01-01 -1:00:00"):
            self.wrong(f"select moment ^'{text}'", 9)

    def test_day_and_moment_as_names(self):
        for word in ("day", "moment"):
            self.expr(word, col(word))
            self.expr(f"{word} + 1", f"132(16 {col(word)} {num(1)})")
            self.expr(f"{word}.a", f"129({hexed(word)} '61)")
            self.expr(f"a.{word}", f"129('61 {hexed(word)})")
            self.expr(f"{word}(1)", f"140({hexed(word)} {num(1)})")
            self.expr(f"{word}('a')", f"140({hexed(word)} 128(21('61)))")
            self.expr(f'"{word}"', col(word))
            self.wrong(f"select \"{word}\" ^'1970-01-01'", 6)
            self.wrong(f"select {word} ^x'00'", 6)


class Kinds(Checks, unittest.TestCase):
    def kind(self, text, written):
        self.expr(f"cast(a as {text})", f"139({written} {col('a')})")
        self.tree(f"create table t (c {text})", f"168('74 169('63 {written} 0 147()))")

    def no_kind(self, text):
        clean = text.replace("^", "")
        mark = text if "^" in text else "^" + clean
        self.wrong(f"select cast(a as {mark})", 4)
        self.wrong(f"create table t (c {mark})", 4)

    def test_each_kind(self):
        self.kind("truth", "1(1 0 0)")
        self.kind("whole", "1(2 0 0)")
        self.kind("real", "1(4 0 0)")
        self.kind("day", "1(6 0 0)")
        self.kind("moment", "1(7 0 0)")
        self.kind("TRUTH", "1(1 0 0)")

    def test_exact(self):
        for digits, places in ((1, 0), (1, 1), (36, 0), (36, 36), (5, 2), (18, 17)):
            self.kind(f"exact({digits}, {places})", f"1(3 {digits} {places})")
        self.kind("exact ( 005 , 02 )", "1(3 5 2)")
        for bad in ("exact(0, 0)", "exact(37, 0)", "exact(1, 2)", "exact(36, 37)", "exact(5, 6)",
                    "exact(9223372036854775807, 0)"):
            self.no_kind(bad)

    def test_text_and_bytes(self):
        for size in (1, 9, 4096):
            self.kind(f"text({size})", f"1(5 {size} 0)")
            self.kind(f"bytes({size})", f"1(8 {size} 0)")
        for word in ("text", "bytes"):
            for size in (0, 4097, 9223372036854775807):
                self.no_kind(f"{word}({size})")

    def test_what_is_no_kind(self):
        for bad in ("a", "integer", "null", "select", "1", "'text'", '"truth"', '"text"(5)', "truths", "(whole)", "$1"):
            self.no_kind(bad)
        self.wrong("select cast(a as ^)", 4)
        self.wrong("select cast(a as^", 4)
        self.wrong("create table t (c ^, d whole)", 4)

    def test_what_must_stand_in_a_kind(self):
        self.wrong("select cast(a as exact^)", 5, "(")
        self.wrong("select cast(a as exact(5^))", 5, ",")
        self.wrong("select cast(a as exact(5 ^2))", 5, ",")
        self.wrong("select cast(a as exact(5, 2^, 1))", 5, ")")
        self.wrong("select cast(a as text^)", 5, "(")
        self.wrong("select cast(a as text(5^, 1))", 5, ")")
        self.wrong("select cast(a as truth^(1))", 5, ")")
        self.wrong("create table t (c bytes^, d whole)", 5, "(")

    def test_counts_in_a_kind(self):
        self.wrong("select cast(a as exact(^))", 2)
        self.wrong("select cast(a as exact(^a, 1))", 2)
        self.wrong("select cast(a as exact(^-5, 1))", 2)
        self.wrong("select cast(a as exact(5, ^))", 2)
        self.wrong("select cast(a as text(^'5'))", 2)
        self.wrong("select cast(a as text(^$1))", 2)
        for number in ("5.0", "1e0", "9223372036854775808", TEN_TO_36, "9" * 5000):
            self.wrong(f"select cast(a as exact(^{number}, 1))", 9)
            self.wrong(f"select cast(a as exact(5, ^{number}))", 9)
            self.wrong(f"select cast(a as bytes(^{number}))", 9)

    def test_a_count_out_of_its_bounds_is_wrong_at_once(self):
        self.wrong("select cast(a as ^exact(40, x", 4)
        self.wrong("select cast(a as ^exact(5, 6", 4)
        self.wrong("select cast(a as ^text(0", 4)


if __name__ == "__main__":
    unittest.main()
