"""What tokens answers: the place and the sort of each token, or the place where none can be."""

import random
import unittest

from answers import Checks, answer, as_bytes, listed
from maker import Maker
from strictask.reading import tokens
from test_tokens import BADLY_MADE, WELL_MADE
from token_reader import tokens_as_told

WORD, QUOTED, NUMBER, TEXT, BYTES, GIVEN, SIGN, END = range(8)

KEPT = """
    all and as between by case cast distinct else end except exists false found from full group having in inner
    intersect is join left like limit not null offset on or order over partition select set then true union values
    when where
""".split()
SIGNS = ("<>", "<=", ">=", "||", "(", ")", ",", ".", "*", "+", "-", "/", "%", "=", "<", ">")
MOST_BYTES = 65536


class Lists(unittest.TestCase):
    def sorts(self, text, *wanted):
        """These tokens stand in the text, which has ^ before each, also before the end."""
        places = []
        parts = as_bytes(text).split(b"^")
        for part in parts[:-1]:
            places.append(len(part) + (places[-1] if places else 0))
        with self.subTest(text=text):
            self.assertEqual(listed(b"".join(parts)), list(zip(places, wanted + (END,), strict=True)))

    def one(self, token, sort):
        """This is one token, wherever it stands."""
        token = as_bytes(token)
        long = len(token)
        with self.subTest(token=token):
            self.assertEqual(listed(token), [(0, sort), (long, END)])
            self.assertEqual(listed(b" " + token + b"\n"), [(1, sort), (long + 2, END)])
            self.assertEqual(listed(b"(" + token + b")"), [(0, SIGN), (1, sort), (long + 1, SIGN), (long + 2, END)])
            self.assertEqual(listed(b"-- a\n" + token + b" --"), [(5, sort), (long + 8, END)])
            if token != b"-":
                self.assertEqual(listed(token + b"--"), [(0, sort), (long + 2, END)])

    def none(self, token):
        """No token can begin here, wherever it stands."""
        token = as_bytes(token)
        with self.subTest(token=token):
            self.assertEqual(tokens(list(token)), [1, 0])
            self.assertEqual(tokens(list(b"select $1, 'a' <= x'00' \n" + token)), [1, 25])
            self.assertEqual(tokens(list(b"-- '\n" + token + b" from t where !")), [1, 5])


class Sorts(Lists):
    def test_number_by_number(self):
        self.assertEqual(tokens(list(b"")), [0, 0, 7])
        self.assertEqual(tokens(list(b"a")), [0, 0, 0, 1, 7])
        self.assertEqual(tokens(list(b"f (\"a\", 1.5) <> 'b'")),
                         [0, 0, 0, 2, 6, 3, 1, 6, 6, 8, 2, 11, 6, 13, 6, 16, 3, 19, 7])
        self.assertEqual(tokens(list(b"x'00' $1")), [0, 0, 4, 6, 5, 8, 7])
        self.assertEqual(tokens(list(b"a !")), [1, 2])
        self.assertEqual(tokens([32] * 65537), [8, 0])

    def test_each_sort(self):
        for token, sort in (("a", WORD), ("select", WORD), ('"a"', QUOTED), ("1", NUMBER), ("1.5e-3", NUMBER),
                            ("'a'", TEXT), ("''", TEXT), ("x'00'", BYTES), ("X''", BYTES), ("$1", GIVEN)):
            self.one(token, sort)
        for sign in SIGNS:
            self.one(sign, SIGN)

    def test_nothing_between(self):
        self.sorts("^a^.^b^", WORD, SIGN, WORD)
        self.sorts("^a^\"b\"^c^'d'^e^$1^\"f\"^", WORD, QUOTED, WORD, TEXT, WORD, GIVEN, QUOTED)
        self.sorts("^1^'a'^2^\"b\"^3^$4^$5^'c'^x'00'^y^", NUMBER, TEXT, NUMBER, QUOTED, NUMBER, GIVEN, GIVEN, TEXT,
                   BYTES, WORD)
        self.sorts("^'a'^x'00'^\"b\"^X''^1^", TEXT, BYTES, QUOTED, BYTES, NUMBER)
        self.sorts("^a^<=^b^||^c^%^d^", WORD, SIGN, WORD, SIGN, WORD, SIGN, WORD)

    def test_blanks_between(self):
        for blank in (" ", "\t", "\n", "\r", " \t\r\n ", " " * 100):
            self.sorts(f"{blank}^a{blank}^,{blank}^'b'{blank}^x'00'{blank}^$1{blank}^1{blank}^\"c\"{blank}^",
                       WORD, SIGN, TEXT, BYTES, GIVEN, NUMBER, QUOTED)
        for byte in b"\x00\x0b\x0c\x1f\x7f\x85\xa0\xff":
            self.assertEqual(listed(b"a " + bytes([byte]) + b" b"), (1, 2))

    def test_remarks_between(self):
        self.sorts("^a-- b 'c\n^d--\n^e^", WORD, WORD, WORD)
        self.sorts("-- a\n--b\n  -- c\n^d^", WORD)
        self.sorts("^a -- b\r c \x00 \" !\n^d^", WORD, WORD)
        self.sorts(b"^a -- \xff\xc3\n^b --\x80^", WORD, WORD)
        self.sorts("^1--2\n^+^3^", NUMBER, SIGN, NUMBER)
        self.sorts("^- ^-^1^", SIGN, SIGN, NUMBER)
        self.sorts("^+^-^*---\n^-^", SIGN, SIGN, SIGN, SIGN)
        self.sorts("^<--\n^>^", SIGN, SIGN)
        self.sorts("^a--\n\n--\n^", WORD)
        self.sorts("^'--' ^\"--\"^", TEXT, QUOTED)
        self.assertEqual(listed("x'--'"), (1, 0))

    def test_the_end_alone(self):
        for text in ("", " ", "\n", "\t \r\n", " " * 1000, "--", "-- a", "--\n", "-- 'a\n\n", "---", "-- a\r b",
                     "\n-- \u20ac", "--a\n--b"):
            with self.subTest(text=text):
                self.assertEqual(tokens(list(as_bytes(text))), [0, len(as_bytes(text)), 7])


class Edges(Lists):
    def test_words(self):
        self.assertEqual(len(KEPT), 42)
        for word in KEPT:
            self.one(word, WORD)
            self.one(word.upper(), WORD)
            self.one(f'"{word}"', QUOTED)
        for word in ("day", "moment", "exact", "_", "__", "a1", "_9", "Z", "zZ_0", "x", "X", "e", "E5"):
            self.one(word, WORD)
        for letter in ("a", "Z", "_"):
            self.one(letter * 64, WORD)
            self.one(letter + "9" * 63, WORD)
            self.none(letter * 65)
            self.none(letter + "9" * 64)
            self.none(letter * 5000)
        self.sorts("^day^'2000-01-01'^", WORD, TEXT)
        self.sorts("^day ^'x'^", WORD, TEXT)

    def test_x_before_a_quote_and_elsewhere(self):
        for x in ("x", "X"):
            self.one(x, WORD)
            self.one(x + "''", BYTES)
            self.one(x + "0", WORD)
            self.none(x + "'g'")
            self.sorts(f"^{x} ^'00'^", WORD, TEXT)
            self.sorts(f"^{x}--\n^'00'^", WORD, TEXT)
            self.sorts(f"^{x}^\"00\"^", WORD, QUOTED)
            self.sorts(f"^{x}{x}^'g'^", WORD, TEXT)
            self.sorts(f"^_{x}^'g'^", WORD, TEXT)
            self.sorts(f"^a{x}^'00'^", WORD, TEXT)
            self.sorts(f"^\"a\"^{x}'00'^", QUOTED, BYTES)
            self.sorts(f"^{x}^.^{x}'00'^", WORD, SIGN, BYTES)
            self.assertEqual(listed(f"1{x}'00'"), (1, 0))
            self.assertEqual(listed(f"$1{x}'00'"), (1, 0))

    def test_bytes(self):
        for token in ("x''", "x'00'", "X'ff'", "x'0123456789abcdef'", "x'" + "a0" * 4096 + "'"):
            self.one(token, BYTES)
        for token in ("x'", "X'0", "x'00", "x'0'", "x'000'", "x'A0'", "x'0A'", "X'0F'", "x'0g'", "x' '", "x'0 0'",
                      "x'0/'", "x'0:'", "x'0`'", "x'0\n'", b"x'\xc3\xa9'",
                      "x'''", "x''''", "x'00''", "x'00'''", "x'00''11'", "x'''00'", "x'00''''11'",
                      "x'" + "a" * 8191 + "'", "x'" + "a" * 8193 + "'", "x'" + "a" * 8194 + "'"):
            self.none(token)
        self.sorts("^x''^x''^", BYTES, BYTES)
        self.sorts("^x'' ^''^", BYTES, TEXT)

    def test_names_in_quotes(self):
        for token in ('"a"', '" "', '""""', '"a""b"', '""""""', "\"'\"", '"x\'0"', '"\x7f"', '"--"', '"\u20ac"',
                      '"' + "a" * 64 + '"', '"' + '""' * 64 + '"', '"' + "\u20ac" * 21 + 'a"',
                      '"' + "\U0001f600" * 16 + '"'):
            self.one(token, QUOTED)
        for token in ('"', '""', '"a', '"""', '"a""', '"""""', '"' + "a" * 65 + '"', '"' + '""' * 65 + '"',
                      '"' + "\u20ac" * 21 + 'ab"', '"' + "\u20ac" * 22 + '"', '"' + "\U0001f600" * 16 + 'a"'):
            self.none(token)
        for byte in range(32):
            self.none(b'"' + bytes([byte]) + b'"')
            self.none(b'"a' + bytes([byte]) + b'b"')

    def test_texts(self):
        for token in ("''", "'a'", "' '", "''''", "'a''b'", "''''''", "'\"'", "'x'", "'--'", "'\n'", "'\u20ac'",
                      "'" + "a" * 4096 + "'", "'" + "''" * 4096 + "'", "'" + "\u20ac" * 1365 + "a'"):
            self.one(token, TEXT)
        for token in ("'", "'a", "'''", "'a''", "'''''", "'" + "a" * 4097 + "'", "'" + "''" * 4097 + "'",
                      "'" + "\u20ac" * 1365 + "ab'"):
            self.none(token)
        for byte in range(32):
            self.one(b"'" + bytes([byte]) + b"'", TEXT)
            self.one(b"'a" + bytes([byte]) + b"b'", TEXT)

    def test_utf8(self):
        for content in WELL_MADE:
            self.one(b"'" + content + b"'", TEXT)
            self.one(b"'a" + content + b"''z'", TEXT)
            if min(content) >= 32:
                self.one(b'"' + content + b'"', QUOTED)
        for content in BADLY_MADE:
            self.none(b"'" + content + b"'")
            self.none(b"'a" + content + b"z'")
            self.none(b'"' + content + b'"')

    def test_given_values(self):
        for number in range(1, 65):
            self.one(f"${number}", GIVEN)
        for number in range(65, 200):
            self.none(f"${number}")
        for token in ("$", "$0", "$00", "$01", "$064", "$1000", "$a", "$_", "$ 1", "$-1", "$$1", "$'1'",
                      "$1a", "$1_", "$64z", "$9A", "$1e5", "$" + "1" * 5000):
            self.none(token)
        self.sorts("^$1^.^5^", GIVEN, SIGN, NUMBER)
        self.sorts("^$64 ^0^", GIVEN, NUMBER)
        self.sorts("^$6^$4^", GIVEN, GIVEN)

    def test_numbers(self):
        for token in ("0", "7", "007", "0.0", "1.5", "00.50", "1e5", "1E5", "1e+5", "1e-5", "1.5e5", "1.5E+05",
                      "0e0", "1.5e-0", "9" * 100, "1." + "0" * 100, "1e" + "9" * 100):
            self.one(token, NUMBER)
        for token in ("1a", "1_", "1Z", "0x1", "1e", "1E", "1e+", "1e-", "1ee5", "1e+-5", "1e.5", "1e 5", "1e5a",
                      "1e5_", "1e5e5", "1.5a", "1.5_", "1.5e", "1.5e+", "1.5e-a", "1.5e5e"):
            self.none(token)

    def test_a_point_without_digits(self):
        self.sorts("^1^.^", NUMBER, SIGN)
        self.sorts("^1^. ^5^", NUMBER, SIGN, NUMBER)
        self.sorts("^1^.^a^", NUMBER, SIGN, WORD)
        self.sorts("^1^.^e5^", NUMBER, SIGN, WORD)
        self.sorts("^1^.^.^5^", NUMBER, SIGN, SIGN, NUMBER)
        self.sorts("^.^5^", SIGN, NUMBER)
        self.sorts("^.^5e5^", SIGN, NUMBER)
        self.sorts("^1.5^.^5^", NUMBER, SIGN, NUMBER)
        self.sorts("^1e5^.^5^", NUMBER, SIGN, NUMBER)
        self.sorts("^a^.^5^", WORD, SIGN, NUMBER)
        self.assertEqual(listed("1.5.5a"), (1, 4))

    def test_what_may_follow_a_number(self):
        for behind, sort in (("'a'", TEXT), ('"a"', QUOTED), ("$1", GIVEN)) + tuple((sign, SIGN) for sign in SIGNS):
            for number in ("1", "1.5", "1e5"):
                self.sorts(f"^{number}^{behind}^", NUMBER, sort)
                self.sorts(f"^{number} ^{behind}^", NUMBER, sort)
        self.sorts("^1 ^a^", NUMBER, WORD)
        self.sorts("^1--\n^a^", NUMBER, WORD)
        self.sorts("^-^1e-5^-^1^", SIGN, NUMBER, SIGN, NUMBER)

    def test_signs_of_one_byte_and_of_two(self):
        for first in SIGNS:
            for second in SIGNS:
                self.sorts(f"^{first} ^{second}^", SIGN, SIGN)
                if first + second[0] not in ("<>", "<=", ">=", "--"):
                    self.sorts(f"^{first}^{second}^", SIGN, SIGN)
        self.sorts("^<>^=^", SIGN, SIGN)
        self.sorts("^<=^>^", SIGN, SIGN)
        self.sorts("^<^<>^", SIGN, SIGN)
        self.sorts("^>=^=^", SIGN, SIGN)
        self.sorts("^>^<=^", SIGN, SIGN)
        self.sorts("^=^>=^", SIGN, SIGN)
        self.sorts("^||^||^", SIGN, SIGN)
        self.assertEqual(listed("|||"), (1, 2))

    def test_what_is_no_sign(self):
        for token in ("|", "|a", "| |", "!", "!=", "#", "&", ":", ";", "?", "@", "[", "]", "\\", "^", "`", "{", "}",
                      "~", "\x00", "\x0b", "\x0c", "\x1f", "\x7f", b"\x80", b"\xa0", b"\xff", "\u20ac", "\ufeff"):
            self.none(token)


class Wrong(Lists):
    def test_the_first_place_where_no_token_can_be(self):
        for text, place in (("a b c ! d ;", 6), ("a 'b", 2), ("a\n--!\n!", 6), ("1 1a 1b", 2), ("$64$65", 3),
                            ("'a' \"\"", 4), ("f(x'0')", 2), ("select 1 from t;", 15), ("a|b", 1), ("a||b|", 4),
                            ("((( !", 4), ("'' ''''' a", 3), ("\u20ac", 0), ("'\u20ac' \u20ac", 6), ("1\u20ac", 1),
                            ("$1\u20ac", 2), ("a\u20ac", 1), ("a" * 64 + " " + "a" * 65, 65)):
            with self.subTest(text=text):
                self.assertEqual(tokens(list(as_bytes(text))), [1, place])

    def test_no_word_or_sign_is_told(self):
        for text in ("!", "a !", "(" * 1000 + "'"):
            self.assertEqual(len(tokens(list(as_bytes(text)))), 2)

    def test_read_refuses_and_tokens_does_not(self):
        for text, number, wanted in (
            ("select", 2, [(0, WORD), (6, END)]),
            ("limit", 7, [(0, WORD), (5, END)]),
            ("", 7, [(0, END)]),
            ("select 1 from", 3, [(0, WORD), (7, NUMBER), (9, WORD), (13, END)]),
            ("select cast(1 as a)", 4, [(0, WORD), (7, WORD), (11, SIGN), (12, NUMBER), (14, WORD), (17, WORD),
                                        (18, SIGN), (19, END)]),
            ("drop t", 5, [(0, WORD), (5, WORD), (6, END)]),
            ("commit )", 6, [(0, WORD), (7, SIGN), (8, END)]),
            ("(" * 41, 8, [(at, SIGN) for at in range(41)] + [(41, END)]),
            ("select " + "9" * 37, 9, [(0, WORD), (7, NUMBER), (44, END)]),
            ("select 1e999", 9, [(0, WORD), (7, NUMBER), (12, END)]),
            ("select day '2001-02-29'", 9, [(0, WORD), (7, WORD), (11, TEXT), (23, END)]),
        ):
            with self.subTest(text=text):
                self.assertEqual(answer(text)[0], number)
                self.assertEqual(listed(text), wanted)
        too_deep = "select a" + "+a" * 40
        self.assertEqual(answer(too_deep), (8, 0, ""))
        self.assertEqual(len(listed(too_deep)), 83)


class Long(Lists):
    def test_one_token_as_long_as_a_text(self):
        for number in ("1" * MOST_BYTES, "1." + "5" * (MOST_BYTES - 2), "1e" + "5" * (MOST_BYTES - 2)):
            self.assertEqual(tokens(list(number.encode())), [0, 0, 2, MOST_BYTES, 7])
            self.assertEqual(tokens(list(number.encode()) + [49]), [8, 0])

    def test_as_many_tokens_as_a_text_can_have(self):
        wanted = [0]
        for place in range(MOST_BYTES):
            wanted += [place, 6]
        self.assertEqual(tokens(list(b"(" * MOST_BYTES)), wanted + [MOST_BYTES, 7])
        self.assertEqual(tokens(list(b"(" * (MOST_BYTES + 1))), [8, 0])
        self.assertEqual(tokens(list(b"a," * 32768)), [0] + [number for place in range(0, MOST_BYTES, 2)
                                                             for number in (place, 0, place + 1, 6)] + [MOST_BYTES, 7])

    def test_no_token_in_a_text_as_long_as_it_may_be(self):
        for text in (" " * MOST_BYTES, "-" * MOST_BYTES, "--\n" * 21845 + "\n", "\n" * MOST_BYTES):
            self.assertEqual(tokens(list(text.encode())), [0, MOST_BYTES, 7])

    def test_the_longest_text_that_no_token_can_be_in(self):
        self.assertEqual(tokens(list(b"!" * MOST_BYTES)), [1, 0])
        self.assertEqual(tokens(list(b"'" + b"a" * (MOST_BYTES - 1))), [1, 0])
        self.assertEqual(tokens(list(b'"' * (MOST_BYTES - 1) + b" ")), [1, 0])
        self.assertEqual(tokens(list(b"x'" + b"0" * (MOST_BYTES - 3) + b"'")), [1, 0])
        self.assertEqual(tokens(list(b"a" * MOST_BYTES)), [1, 0])
        self.assertEqual(tokens(list(b"$" + b"1" * (MOST_BYTES - 1))), [1, 0])
        self.assertEqual(tokens(list(b"1" * (MOST_BYTES - 1) + b"a")), [1, 0])
        self.assertEqual(tokens(list(b"(" * (MOST_BYTES - 1) + b"!")), [1, MOST_BYTES - 1])

    def test_too_long_is_told_ahead_of_all_else(self):
        for length in (MOST_BYTES + 1, 100000):
            for byte in b" a(!'\"-1$\xff\x00":
                self.assertEqual(tokens([byte] * length), [8, 0])
        self.assertEqual(tokens(list(b"select 1".ljust(65537))), [8, 0])
        self.assertEqual(tokens(list(b"!".ljust(65537))), [8, 0])


class Compared(unittest.TestCase):
    """With what regular expressions find."""

    def same(self, text):
        found = tokens(list(text))
        if found != tokens_as_told(text):
            self.fail(text)
        return found[0]

    def test_each_text_of_two_bytes(self):
        for first in range(256):
            for second in range(256):
                self.same(bytes([first, second]))

    def test_bytes_by_chance(self):
        chance = random.Random(31)
        came = [0, 0]
        for turn in range(40000):
            few = chance.choice((b"xX'0a1", b"\"' \xc3\xa9a", b"1.eE+-5a ", b"$0164 a'", b"<>=|-.\n ",
                                 b"xXe1_.'\"$-+<\n 6"))
            came[self.same(bytes(chance.choices(few, k=chance.randint(1, 12))))] += 1
        self.assertGreater(min(came), 5000)

    def test_pieces_by_chance(self):
        pieces = (b"a", b"Select", b"x", b"x'0f'", b"X'", b"'", b"''", b"'b'", b'"', b'""', b'"c"', b"1", b"0", b".",
                  b"e", b"E+", b"1.5", b"2e3", b"$", b"$1", b"$64", b"-", b"--", b"\n", b" ", b"\t", b"<", b">", b"=",
                  b"|", b"||", b"(", b")", b",", b"*", b"%", b"_", b"9", b"\xe2\x82\xac", b"\xe2\x82", b"a" * 63,
                  b"'" + b"a" * 4095, b'"' + b"a" * 63)
        chance = random.Random(32)
        came = [0, 0]
        for turn in range(30000):
            came[self.same(b"".join(chance.choices(pieces, k=chance.randint(1, 20))))] += 1
        self.assertGreater(min(came), 2000)

    def test_commands_by_chance(self):
        maker = Maker(33)
        for turn in range(500):
            words, tree = maker.command(maker.chance.randint(0, 4))
            text, places = maker.spread(words)
            self.assertEqual(self.same(as_bytes(text)), 0)
            self.assertEqual([place for place, sort in listed(text)], places + [len(as_bytes(text))], text)


if __name__ == "__main__":
    unittest.main()
