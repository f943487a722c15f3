"""Values, and the written kinds that a column or a cast can have."""

from strictask.dates import day_value
from strictask.dates import moment_value
from strictask.lexemes import BYTES
from strictask.lexemes import NUMBER
from strictask.lexemes import TEXT
from strictask.lexemes import WORD
from strictask.numerals import need_count
from strictask.numerals import number_value
from strictask.refusals import NoKind
from strictask.trees import Node

PLAIN_KINDS = {"truth": 1, "whole": 2, "real": 4, "day": 6, "moment": 7}
SIZED_KINDS = {"text": 5, "bytes": 8}
MOST_BYTES = 4096
MOST_DIGITS = 36


def value(cursor):
    """Go on behind the value that comes next, and give it; None if none does."""
    token = cursor.token
    if token.kind == WORD:
        return word_value(cursor)
    if token.kind == NUMBER:
        cursor.step()
        return number_value(token)
    if token.kind == TEXT:
        cursor.step()
        return Node(21, [token.worth])
    if token.kind == BYTES:
        cursor.step()
        return Node(24, [token.worth])
    return None


def word_value(cursor):
    """The value that a word begins, or None."""
    if cursor.skip_word("null"):
        return Node(16, [])
    if cursor.skip_word("true"):
        return Node(17, [1])
    if cursor.skip_word("false"):
        return Node(17, [0])
    behind = cursor.ahead(1)
    if behind.kind == TEXT and cursor.skip_word("day"):
        cursor.step()
        return day_value(behind)
    if behind.kind == TEXT and cursor.skip_word("moment"):
        cursor.step()
        return moment_value(behind)
    return None


def need_kind(cursor):
    """Go on behind the written kind that must come next, and give it."""
    token = cursor.token
    if token.kind == WORD and token.worth in PLAIN_KINDS:
        cursor.step()
        return Node(1, [PLAIN_KINDS[token.worth], 0, 0])
    if token.kind == WORD and token.worth in SIZED_KINDS:
        return sized_kind(cursor)
    if cursor.has_word("exact"):
        return exact_kind(cursor)
    raise NoKind(token.place)


def sized_kind(cursor):
    """A kind with its greatest length in bytes."""
    token = cursor.token
    cursor.step()
    cursor.need_sign("(")
    size = need_count_within(cursor, token, 1, MOST_BYTES)
    cursor.need_sign(")")
    return Node(1, [SIZED_KINDS[token.worth], size, 0])


def exact_kind(cursor):
    """The kind of exact numbers, with its digits and how many of them are behind the point."""
    token = cursor.token
    cursor.step()
    cursor.need_sign("(")
    digits = need_count_within(cursor, token, 1, MOST_DIGITS)
    cursor.need_sign(",")
    places = need_count_within(cursor, token, 0, digits)
    cursor.need_sign(")")
    return Node(1, [3, digits, places])


def need_count_within(cursor, token, least, most):
    """A count within these bounds; where it isn't, the word that begins the kind is what's wrong."""
    count = need_count(cursor)
    if not least <= count <= most:
        raise NoKind(token.place)
    return count
