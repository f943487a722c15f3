"""Values, and the written kinds of columns and casts, as they are said."""

from strictask.binary64 import seventeen_digits
from strictask.dates import spelled_day
from strictask.dates import spelled_moment
from strictask.trees import written_text

TEXT_TAG = 21

KIND_WORDS = {1: "truth", 2: "whole", 3: "exact", 4: "real", 5: "text", 6: "day", 7: "moment", 8: "bytes"}


def say_value(speech, value):
    """Say a value."""
    if value.tag == TEXT_TAG:
        speech.put_text(value.parts[0])
    else:
        speech.put(SPELLINGS[value.tag](value.parts))


def spelled_null(parts):
    """The value that is none."""
    return "null"


def spelled_truth(parts):
    """True or false."""
    return "true" if parts[0] == 1 else "false"


def spelled_whole(parts):
    """A whole number."""
    return str(parts[0])


def spelled_exact(parts):
    """An exact number with all its places."""
    places = parts[1]
    if places == 0:
        return str(parts[0])
    digits = str(parts[0]).zfill(places + 1)
    point = len(digits) - places
    return digits[:point] + "." + digits[point:]


def spelled_real(parts):
    """A real as a whole number of seventeen digits and a power of ten."""
    scaled = seventeen_digits(parts[0])
    return str(scaled[0]) + "e" + str(scaled[1])


def spelled_day_value(parts):
    """A day."""
    return "day '" + spelled_day(parts[0]) + "'"


def spelled_moment_value(parts):
    """A moment."""
    return "moment '" + spelled_moment(parts[0]) + "'"


def spelled_bytes_value(parts):
    """Bytes."""
    return "x" + written_text(parts[0]) + "'"


SPELLINGS = {
    16: spelled_null, 17: spelled_truth, 18: spelled_whole, 19: spelled_exact, 20: spelled_real,
    22: spelled_day_value, 23: spelled_moment_value, 24: spelled_bytes_value,
}


def say_kind(speech, kind):
    """Say the written kind of a column or a cast."""
    number = kind.parts[0]
    speech.put(KIND_WORDS[number])
    # Digits or a length are at least 1 where the kind has them, and 0 where it has none.
    if kind.parts[1] > 0:
        speech.put("(" + str(kind.parts[1]))
        if KIND_WORDS[number] == "exact":
            speech.put(", " + str(kind.parts[2]))
        speech.put(")")
