"""The command that makes a table, as it is said."""

from strictask.said_asking import NO_CONDITION_TAG
from strictask.said_asking import say_bracketed
from strictask.said_asking import say_expression
from strictask.said_values import say_kind
from strictask.speech import say_listed
from strictask.speech import say_names
from strictask.tables import DEFAULT_LEVEL


def say_table_made(speech, parts):
    """Say a table with its columns and what holds for all of it."""
    speech.put("create table ")
    speech.put_name(parts[0])
    speech.put(" (")
    say_listed(speech, parts[1:], say_part)
    speech.put(")")


def say_part(speech, tree):
    """Say one part of a table."""
    PARTS[tree.tag](speech, tree.parts)


def say_column_made(speech, parts):
    """Say a column with its kind."""
    speech.put_name(parts[0])
    speech.put(" ")
    say_kind(speech, parts[1])
    if parts[2] == 1:
        speech.put(" not null")
    if parts[3].tag != NO_CONDITION_TAG:
        speech.put(" default ")
        say_expression(speech, parts[3], DEFAULT_LEVEL)


def say_key_columns(speech, parts):
    """Say which columns tell a row from the others."""
    speech.put("primary key" if parts[0] == 1 else "unique")
    say_names(speech, parts[1:])


def say_checked(speech, parts):
    """Say what must hold for each row."""
    speech.put("check ")
    say_bracketed(speech, parts)


def say_foreign_key(speech, parts):
    """Say which columns refer to those of another table."""
    first_other = 3 + parts[2]
    speech.put("foreign key")
    say_names(speech, parts[3:first_other])
    speech.put(" references ")
    speech.put_name(parts[1])
    say_names(speech, parts[first_other:])
    if parts[0] == 1:
        speech.put(" on delete cascade")


PARTS = {169: say_column_made, 170: say_key_columns, 171: say_checked, 172: say_foreign_key}
