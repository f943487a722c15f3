"""A text is looked at token by token."""

from strictask.lexemes import BYTES
from strictask.lexemes import END
from strictask.lexemes import GIVEN
from strictask.lexemes import NUMBER
from strictask.lexemes import QUOTED
from strictask.lexemes import SIGN
from strictask.lexemes import TEXT
from strictask.lexemes import Token
from strictask.lexemes import WORD
from strictask.refusals import NoToken
from strictask.utf8 import well_made

LINE_FEED = 10
BLANK_BYTES = (9, 10, 13, 32)
DOUBLE_QUOTE = 34
DOLLAR = 36
QUOTE = 39
MINUS = 45
POINT = 46
ZERO = 48

# From byte 43 (plus) to byte 122 (z); great letters stand here as small ones.
SPELLING = "+,-./0123456789:;<=>?@abcdefghijklmnopqrstuvwxyz[\\]^_`abcdefghijklmnopqrstuvwxyz"

TWO_BYTE_SIGNS = {(60, 62): "<>", (60, 61): "<=", (62, 61): ">=", (124, 124): "||"}
ONE_BYTE_SIGNS = {
    37: "percent", 40: "(", 41: ")", 42: "*", 43: "+", 44: ",", 45: "-", 46: ".", 47: "/", 60: "<", 61: "=", 62: ">",
}


def lexed(text):
    """All tokens of the text, the end last."""
    found = []
    place = next_place(text, 0)
    while place < len(text):
        token = token_at(text, place)
        found.append(token)
        place = next_place(text, token.end)
    found.append(Token(END, len(text), len(text), None))
    return found


def next_place(text, place):
    """Where blanks and remarks end that may stand at this place."""
    while place < len(text):
        if text[place] in BLANK_BYTES:
            place += 1
        elif text[place] == MINUS and byte_at(text, place + 1) == MINUS:
            place = line_end(text, place)
        else:
            return place
    return place


def line_end(text, place):
    """Where the line ends: before its line feed, or with the text."""
    while place < len(text) and text[place] != LINE_FEED:
        place += 1
    return place


def byte_at(text, place):
    """The byte at a place, or -1 behind the last one."""
    return text[place] if place < len(text) else -1


def token_at(text, place):
    """The token that begins at this place, told by how it begins."""
    first = text[place]
    if first in (88, 120) and byte_at(text, place + 1) == QUOTE:
        return bytes_token(text, place)
    if begins_word(first):
        return word_token(text, place)
    if first == DOUBLE_QUOTE:
        return quoted_token(text, place)
    if first == QUOTE:
        return text_token(text, place)
    if first == DOLLAR:
        return given_token(text, place)
    if is_digit(first):
        return number_token(text, place)
    return sign_token(text, place)


def is_digit(byte):
    """Whether the byte is a digit from 0 to 9."""
    return 48 <= byte <= 57


def begins_word(byte):
    """Whether the byte is a letter or _."""
    return 65 <= byte <= 90 or 97 <= byte <= 122 or byte == 95


def in_word(byte):
    """Whether the byte is a letter, a digit or _."""
    return begins_word(byte) or is_digit(byte)


def spelled(text, place, end):
    """The bytes of a word or a number as a text, in small letters."""
    return "".join([SPELLING[byte - 43] for byte in text[place:end]])


def bytes_token(text, place):
    """x, and pairs of hexadecimal digits between two signs."""
    end = quoted_end(text, place + 1, place)
    digits = text[place + 2:end - 1]
    if len(digits) % 2 == 1 or len(digits) > 8192:
        raise NoToken(place)
    halves = [half_byte(digit) for digit in digits]
    if -1 in halves:
        raise NoToken(place)
    content = [halves[at] * 16 + halves[at + 1] for at in range(0, len(halves), 2)]
    return Token(BYTES, place, end, content)


def half_byte(digit):
    """What a hexadecimal digit is worth, or -1."""
    if is_digit(digit):
        return digit - 48
    if 97 <= digit <= 102:
        return digit - 87
    return -1


def word_token(text, place):
    """A word, as long as it goes."""
    end = place
    while in_word(byte_at(text, end)):
        end += 1
    if end - place > 64:
        raise NoToken(place)
    return Token(WORD, place, end, spelled(text, place, end))


def quoted_token(text, place):
    """A name in quotes."""
    end = quoted_end(text, place, place)
    content = undoubled(text[place + 1:end - 1], DOUBLE_QUOTE)
    if not 1 <= len(content) <= 64 or min(content) < 32 or not well_made(content):
        raise NoToken(place)
    return Token(QUOTED, place, end, content)


def text_token(text, place):
    """A text between two signs."""
    end = quoted_end(text, place, place)
    content = undoubled(text[place + 1:end - 1], QUOTE)
    if len(content) > 4096 or not well_made(content):
        raise NoToken(place)
    return Token(TEXT, place, end, content)


def quoted_end(text, opening, place):
    """Where that ends which begins with the sign at the opening: behind the next such sign that isn't doubled."""
    sign = text[opening]
    end = opening + 1
    while end < len(text):
        if text[end] != sign:
            end += 1
        elif byte_at(text, end + 1) == sign:
            end += 2
        else:
            return end + 1
    raise NoToken(place)


def undoubled(content, sign):
    """The content with one sign for each two of them. All that stand in it are doubled."""
    single = []
    place = 0
    while place < len(content):
        single.append(content[place])
        place += 2 if content[place] == sign else 1
    return single


def given_token(text, place):
    """A given value: its number from 1 to 64, without a 0 in front."""
    end = digits_end(text, place + 1)
    if not 2 <= end - place <= 3 or text[place + 1] == ZERO or in_word(byte_at(text, end)):
        raise NoToken(place)
    number = int(spelled(text, place + 1, end))
    if number > 64:
        raise NoToken(place)
    return Token(GIVEN, place, end, number)


def digits_end(text, place):
    """Where the digits end that may stand at this place."""
    while is_digit(byte_at(text, place)):
        place += 1
    return place


def number_token(text, place):
    """A number: digits, perhaps a point and digits, perhaps e and digits."""
    end = digits_end(text, place)
    if byte_at(text, end) == POINT and is_digit(byte_at(text, end + 1)):
        end = digits_end(text, end + 1)
    end = exponent_end(text, end)
    if in_word(byte_at(text, end)):
        raise NoToken(place)
    return Token(NUMBER, place, end, spelled(text, place, end))


def exponent_end(text, place):
    """Where an e with its digits ends, or the same place if there is none."""
    if byte_at(text, place) not in (69, 101):
        return place
    digits = place + 1
    if byte_at(text, digits) in (43, 45):
        digits += 1
    if is_digit(byte_at(text, digits)):
        return digits_end(text, digits)
    return place


def sign_token(text, place):
    """A sign of two bytes, else one of one byte."""
    first = text[place]
    pair = (first, byte_at(text, place + 1))
    if pair in TWO_BYTE_SIGNS:
        return Token(SIGN, place, place + 2, TWO_BYTE_SIGNS[pair])
    if first in ONE_BYTE_SIGNS:
        return Token(SIGN, place, place + 1, ONE_BYTE_SIGNS[first])
    raise NoToken(place)
