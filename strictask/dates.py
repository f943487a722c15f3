"""Days and moments: what texts tell of them, and the texts that tell them."""

from strictask.refusals import NoValue
from strictask.trees import Node

MONTH_DAYS = (31, 28, 31, 30, 31, 30, 31, 31, 30, 31, 30, 31)
# The days from 0001-01-01 to 1970-01-01.
DAYS_TO_1970 = 719162
DAY_MICROSECONDS = 86400000000
# After so many years the calendar goes round, and so many days have passed.
ROUND_YEARS = 400
ROUND_DAYS = 146097
BLANK = 32
HYPHEN = 45
POINT = 46
COLON = 58


def day_value(token):
    """The value of a text behind day."""
    days = day_number(token.worth) if len(token.worth) == 10 else None
    if days is None:
        raise NoValue(token.place)
    return Node(22, [days])


def moment_value(token):
    """The value of a text behind moment."""
    content = token.worth
    if len(content) < 19 or content[10] != BLANK:
        raise NoValue(token.place)
    days = day_number(content[:10])
    seconds = clock_seconds(content[11:19])
    behind = microseconds(content[19:])
    if days is None or seconds is None or behind is None:
        raise NoValue(token.place)
    return Node(23, [days * DAY_MICROSECONDS + seconds * 1000000 + behind])


def number_of(digits):
    """The number that the bytes are the digits of, or -1 if one of them is no digit."""
    number = 0
    for digit in digits:
        if not 48 <= digit <= 57:
            return -1
        number = number * 10 + digit - 48
    return number


def day_number(content):
    """The days from 1970-01-01 to the day that ten bytes tell, or None."""
    if content[4] != HYPHEN or content[7] != HYPHEN:
        return None
    year = number_of(content[:4])
    month = number_of(content[5:7])
    day = number_of(content[8:])
    if year < 1 or not 1 <= month <= 12 or not 1 <= day <= month_length(year, month):
        return None
    days = days_before(year)
    for earlier in range(1, month):
        days += month_length(year, earlier)
    return days + day - 1 - DAYS_TO_1970


def days_before(year):
    """The days from 0001-01-01 to the year's first."""
    past = year - 1
    return past * 365 + past // 4 - past // 100 + past // 400


def month_length(year, month):
    """How many days the month has in that year."""
    if month == 2 and is_leap(year):
        return 29
    return MONTH_DAYS[month - 1]


def is_leap(year):
    """Whether the year has a 29th of February."""
    return year % 4 == 0 and (year % 100 != 0 or year % 400 == 0)


def clock_seconds(content):
    """The seconds of the day that eight bytes tell, or None."""
    if content[2] != COLON or content[5] != COLON:
        return None
    hours = number_of(content[:2])
    minutes = number_of(content[3:5])
    seconds = number_of(content[6:])
    if not 0 <= hours <= 23 or not 0 <= minutes <= 59 or not 0 <= seconds <= 59:
        return None
    return (hours * 60 + minutes) * 60 + seconds


def microseconds(content):
    """The microseconds that a point and one to six digits tell; 0 if nothing is there; or None."""
    if len(content) == 0:
        return 0
    digits = content[1:]
    if content[0] != POINT or not 1 <= len(digits) <= 6 or number_of(digits) < 0:
        return None
    return number_of(digits + [48] * (6 - len(digits)))


def spelled_day(days):
    """The day that is so many days behind 1970-01-01, as a text."""
    passed = days + DAYS_TO_1970
    year = year_of(passed)
    rest = passed - days_before(year)
    month = 1
    while rest >= month_length(year, month):
        rest -= month_length(year, month)
        month += 1
    return str(year).zfill(4) + "-" + two_digits(month) + "-" + two_digits(rest + 1)


def year_of(passed):
    """The year of the day that is so many days behind 0001-01-01."""
    # As if all years were as long: the right one, or the one before it.
    year = passed * ROUND_YEARS // ROUND_DAYS + 1
    return year + 1 if days_before(year + 1) <= passed else year


def two_digits(number):
    """The number as a text of two digits."""
    return str(number).zfill(2)


def spelled_moment(passed):
    """The moment that is so many microseconds behind 1970-01-01, as a text."""
    days = passed // DAY_MICROSECONDS
    seconds = passed % DAY_MICROSECONDS // 1000000
    rest = passed % 1000000
    clock = two_digits(seconds // 3600) + ":" + two_digits(seconds // 60 % 60) + ":" + two_digits(seconds % 60)
    behind = "." + str(rest).zfill(6) if rest > 0 else ""
    return spelled_day(days) + " " + clock + behind
