"""Each token at its edges."""

import unittest

from answers import Checks, answer, ask, col, hexed, num


def byte_list(content):
    """A text's value as an expression."""
    return f"128(21({hexed(content)}))"


WELL_MADE = (
    b"\x00", b"\x1f", b" ", b"\x7f", b"\n", b"\t\r",
    b"\xc2\x80", b"\xdf\xbf", b"\xe0\xa0\x80", b"\xe0\xbf\xbf", b"\xe1\x80\x80", b"\xec\xbf\xbf", b"\xed\x80\x80",
    b"\xed\x9f\xbf", b"\xee\x80\x80", b"\xef\xbf\xbf", b"\xf0\x90\x80\x80", b"\xf3\xbf\xbf\xbf", b"\xf4\x80\x80\x80",
    b"\xf4\x8f\xbf\xbf", b"a\xc3\xa9\xe2\x82\xac\xf0\x9f\x98\x80z",
)

BADLY_MADE = (
    b"\x80", b"\xbf", b"\xc0\x80", b"\xc1\xbf", b"\xc2", b"\xc2a", b"\xc2\xc2", b"\xdf\x7f", b"\xdf\xc0",
    b"\xe0\x80\x80", b"\xe0\x9f\xbf", b"\xe1\x80", b"\xe1\x80a", b"\xe1a\x80", b"\xed\xa0\x80", b"\xed\xbf\xbf",
    b"\xf0\x80\x80\x80", b"\xf0\x8f\xbf\xbf", b"\xf1\x80\x80", b"\xf1\x80\x80a", b"\xf4\x90\x80\x80",
    b"\xf5\x80\x80\x80", b"\xf7\xbf\xbf\xbf", b"\xf8\x88\x80\x80\x80", b"\xfe", b"\xff", b"a\xe2\x82",
)


class Tokens(Checks, unittest.TestCase):
    def one_wrong(self, token):
        """No token can be where this one would begin, whatever stands before and behind."""
        text = b"select 1, " + (token if isinstance(token, bytes) else token.encode())
        with self.subTest(token=token):
            self.assertEqual(answer(text), (1, 10, ""))
            self.assertEqual(answer(text + b" from t"), (1, 10, ""))

    def test_bytes(self):
        self.expr("x''", "128(24('))")
        self.expr("x'00ff'", "128(24('00ff))")
        self.expr("X'0123456789abcdef'", "128(24('0123456789abcdef))")
        self.expr("x'" + "ab" * 4096 + "'", f"128(24('{'ab' * 4096}))")

    def test_what_begins_like_bytes_must_be_bytes(self):
        for token in ("x'0'", "x'000'", "x'0A'", "X'F0'", "x'0g'", "x'0`'", "x'/0'", "x':0'", "x' 00'", "x'00",
                      "x'", "x'00''11'", "x'''",
                      "x''''", "x'" + "ab" * 4097 + "'", "x'" + "ab" * 4096 + "a'"):
            self.one_wrong(token)

    def test_only_a_token_of_its_own_begins_bytes(self):
        self.wrong("select max^'00'", 6)
        self.wrong("select x ^'00'", 6)
        self.wrong("select xx^'00'", 6)
        self.expr("x", col("x"))

    def test_words(self):
        for word in ("a", "_", "a1", "_9", "z_Z9", "a" * 64, "_" * 64):
            self.expr(word, col(word.lower()))
        self.expr("\u0041Bc", col("abc"))
        self.one_wrong("a" * 65)
        self.one_wrong("_" * 65)
        self.one_wrong("A9" * 32 + "b")

    def test_great_letters_are_small_in_words_alone(self):
        self.tree("SELECT NuLL", ask("128(16())"))
        self.tree('Select "Ab"', ask(col("Ab")))
        self.expr("'Ab'", byte_list("Ab"))
        self.expr("ABCDEFGHIJKLMNOPQRSTUVWXYZ", col("abcdefghijklmnopqrstuvwxyz"))
        self.wrong("EXPLAIN ^SELECTED", 5, "select")

    def test_names_in_quotes(self):
        self.expr('"a"', col("a"))
        self.expr('"a b"', col("a b"))
        self.expr('" "', col(" "))
        self.expr('"a""b"', col('a"b'))
        self.expr('""""', col('"'))
        self.expr("\"it's\"", col("it's"))
        self.expr('"\x7f"', col("\x7f"))
        self.expr('"' + "a" * 64 + '"', col("a" * 64))
        self.expr('"' + '""' * 64 + '"', col('"' * 64))
        self.expr('"' + "\u20ac" * 21 + 'a"', col("\u20ac" * 21 + "a"))

    def test_what_is_no_name_in_quotes(self):
        for token in ('""', '"', '"a', '"""', '"a""', '"' + "a" * 65 + '"', '"' + '""' * 65 + '"',
                      '"' + "\u20ac" * 22 + '"', '"\x1f"', '"a\n"', '"\x00"', '"\t"'):
            self.one_wrong(token)

    def test_kept_words_are_names_only_in_quotes(self):
        kept = ("all and as between by case cast distinct else end except exists false found from full group having "
                "in inner intersect is join left like limit not null offset on or order over partition select set "
                "then true union values when where").split()
        self.assertEqual(len(kept), 42)
        for word in kept:
            self.wrong(f"savepoint ^{word}", 3)
            self.wrong(f"savepoint ^{word.upper()}", 3)
            self.tree(f'savepoint "{word}"', f"183({hexed(word)})")
            self.tree(f'select "{word}"', ask(col(word)))
            self.tree(f"savepoint {word}s", f"183({hexed(word + 's')})")

    def test_texts(self):
        for content in ("", "a", "a b", "--", '"', "$1", "x", "a\nb"):
            self.expr(f"'{content}'", byte_list(content))
        self.expr("''''", byte_list("'"))
        self.expr("''''''", byte_list("''"))
        self.expr("'a''b'", byte_list("a'b"))
        self.expr("'" + "a" * 4096 + "'", byte_list("a" * 4096))
        self.expr("'" + "''" * 4096 + "'", byte_list("'" * 4096))
        self.expr("'" + "\u20ac" * 1365 + "a'", byte_list("\u20ac" * 1365 + "a"))

    def test_what_is_no_text(self):
        for token in ("'", "'a", "'''", "'a''", "'" + "a" * 4097 + "'", "'" + "''" * 4097 + "'",
                      "'" + "\u20ac" * 1366 + "'"):
            self.one_wrong(token)

    def test_utf8_that_is_well_made(self):
        for content in WELL_MADE:
            self.tree(b"select '" + content + b"'", ask(byte_list(content)))
            if content[0] >= 32:
                self.tree(b'select "' + content + b'"', ask(col(content)))

    def test_utf8_that_is_not_well_made(self):
        for content in BADLY_MADE:
            self.one_wrong(b"'" + content + b"'")
            self.one_wrong(b'"' + content + b'"')

    def test_each_sign_of_utf8_as_python_has_it(self):
        for code in list(range(1, 0x900)) + list(range(0xD700, 0xE100)) + list(range(0xFF00, 0x10100)) + [0x10FFFF]:
            content = chr(code).encode("utf-8", "surrogatepass")
            if code != 39:
                wanted = (1, 7, "") if 0xD800 <= code <= 0xDFFF else ask(byte_list(content))
                self.assertEqual(answer(b"select '" + content + b"'"), wanted)

    def test_given_values(self):
        for number in range(1, 65):
            self.expr(f"${number}", f"130({number - 1})")
        for token in ("$", "$0", "$00", "$01", "$65", "$99", "$100", "$640", "$ 1", "$a", "$1a", "$1_", "$64e", "$-1",
                      "$" + "1" * 1000):
            self.one_wrong(token)
        self.expr("$1-$2", "132(17 130(0) 130(1))")
        self.wrong("select $1^'a'", 6)
        self.wrong("select $1^.5", 6)

    def test_numbers(self):
        self.expr("0", num(0))
        self.expr("007", num(7))
        self.expr("1.5", "128(19(15 1))")
        self.expr("1.50", "128(19(150 2))")
        self.expr("1E0", "128(20(4607182418800017408))")
        self.expr("1e+0", "128(20(4607182418800017408))")
        self.expr("1.0e-0", "128(20(4607182418800017408))")

    def test_what_may_not_follow_a_number(self):
        for token in ("1a", "1_", "1e", "1E", "1e+", "1e-", "1.5e", "1.5a", "1.5_", "1e5a", "1e5e5", "1e5_", "0x1",
                      "1ee5", "1e+-5", "1x'00'"):
            self.one_wrong(token)

    def test_what_may_follow_a_number(self):
        self.wrong("select 1^.", 6)
        self.wrong("select 1^.a", 6)
        self.wrong("select 1^.e5", 6)
        self.wrong("select 1.5^.5", 6)
        self.wrong("select 1e5^.5", 6)
        self.wrong("select 1^'a'", 6)
        self.wrong('select 1^"a"', 6)
        self.wrong("select 1^$1", 6)
        self.wrong("select ^.5", 2)
        self.expr("1-1", f"132(17 {num(1)} {num(1)})")
        self.expr("1+1", f"132(16 {num(1)} {num(1)})")

    def test_signs(self):
        one, two = col("a"), col("b")
        for sign, number in (("<>", 9), ("<=", 11), (">=", 13), ("||", 42), ("*", 18), ("+", 16), ("-", 17), ("/", 19),
                             ("%", 20), ("=", 8), ("<", 10), (">", 12)):
            self.expr(f"a{sign}b", f"132({number} {one} {two})")
            self.expr(f"a {sign} b", f"132({number} {one} {two})")
        for text in ("a < ^> b", "a < ^= b", "a > ^= b", "a <=^> b", "a = ^= b", "a > ^< b", "a =^< b"):
            self.wrong("select " + text, 2)

    def test_what_is_no_sign(self):
        for token in ("|", "| |", "|a", "!", "!=", "#", "&", ":", ";", "?", "@", "[", "]", "\\", "^", "`", "{", "}",
                      "~", "\x00", "\x0b", "\x0c", "\x1f", "\x7f", b"\x80", b"\xc3\xa9", b"\xa0", b"\xff"):
            self.one_wrong(token)

    def test_a_byte_that_begins_no_token_is_wrong_and_the_others_are_not(self):
        begins = b" \t\n\rabcdefghijklmnopqrstuvwxyzABCDEFGHIJKLMNOPQRSTUVWXYZ_0123456789(),.*+-/%=<>"
        for byte in range(256):
            with self.subTest(byte=byte):
                found = answer(bytes([byte]))
                self.assertEqual(found[:2] == (1, 0), byte not in begins)

    def test_blanks(self):
        for blank in (" ", "\t", "\n", "\r", " \t\n\r ", "  "):
            self.tree(f"{blank}select{blank}1{blank},{blank}1{blank}",
                      "160(144(0 145(149(128(18(1)) ') 149(128(18(1)) ')) 146() 147() 148() 147()))")
        self.expr("a.b", "129('61 '62)")
        self.expr("a . b", "129('61 '62)")
        self.expr("f (a)", f"140('66 {col('a')})")
        self.tree("select'a'", ask(byte_list("a")))
        self.tree('select"a"', ask(col("a")))
        self.tree("select$1", ask("130(0)"))

    def test_remarks(self):
        self.tree("--\nselect 1--", ask(num(1)))
        self.tree("select -- 1, '\n 1 -- ^ \x00 \" x'", ask(num(1)))
        self.tree(b"select 1 -- \xff\x80'", ask(num(1)))
        self.tree("select 1--2\n+3", ask(f"132(16 {num(1)} {num(3)})"))
        self.tree("select 1 -- a \r + 5", ask(num(1)))
        self.tree("select - -1", ask("132(21 132(21 128(18(1))))"))
        self.wrong("select --1\n^", 2)
        self.wrong("select ---1^", 2)
        self.wrong("--^", 7)
        self.wrong("-- select 1^", 7)
        self.one_wrong("1e--5")

    def test_remarks_and_blanks_count_for_places(self):
        self.wrong("-- a\n\n ^x", 7)
        self.wrong("select -- \u00e9\n 1 ^2", 6)
        self.wrong("select \n\t ^", 2)

    def test_a_wrong_token_is_told_before_all_else(self):
        self.wrong("x y z ^! select", 1)
        self.wrong("^! ! select", 1)
        self.wrong("select from ^;", 1)
        self.wrong("select 1 from t ^;", 1)
        self.wrong("(" * 100 + "^'", 1)
        self.wrong("select 99999999999999999999999999999999999999 ^1a", 1)


if __name__ == "__main__":
    unittest.main()
