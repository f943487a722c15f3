"""What numbers are worth."""

from strictask.binary64 import nearest_bits
from strictask.lexemes import NUMBER
from strictask.refusals import NoExpression
from strictask.refusals import NoValue
from strictask.trees import Node

WHOLE_BOUND = 9223372036854775808
MOST_DIGITS = 36


def number_value(token):
    """The value of a number's token."""
    if "e" in token.worth:
        return real_value(token)
    if "." in token.worth:
        return exact_value(token)
    whole = digits_number(token, token.worth)
    return Node(18, [whole]) if whole < WHOLE_BOUND else Node(19, [whole, 0])


def digits_number(token, digits):
    """The digits as one number, which must have 36 digits at most without the zeros in front."""
    counting = digits.lstrip("0")
    # The length is looked at first: Python itself refuses to take thousands of digits as a number.
    if len(counting) > MOST_DIGITS:
        raise NoValue(token.place)
    return int("0" + counting)


def exact_value(token):
    """The value of a number with a point."""
    parts = token.worth.partition(".")
    places = len(parts[2])
    if places > MOST_DIGITS:
        raise NoValue(token.place)
    return Node(19, [digits_number(token, parts[0] + parts[2]), places])


def real_value(token):
    """The value of a number with e."""
    parts = token.worth.partition("e")
    point = parts[0].partition(".")
    digits = point[0] + point[2]
    if len(digits) > MOST_DIGITS or len(parts[2]) > 4:
        raise NoValue(token.place)
    bits = nearest_bits(int(digits), int(parts[2]) - len(point[2]))
    if bits is None:
        raise NoValue(token.place)
    return Node(20, [bits])


def need_count(cursor):
    """A count: a number of digits alone, below 2 to the 63."""
    token = cursor.token
    if token.kind != NUMBER:
        raise NoExpression(token.place)
    if not token.worth.isdigit():
        raise NoValue(token.place)
    number = digits_number(token, token.worth)
    if number >= WHOLE_BOUND:
        raise NoValue(token.place)
    cursor.step()
    return number
