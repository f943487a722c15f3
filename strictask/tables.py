"""The command that makes a table."""

from strictask.asking import expression
from strictask.asking import listed
from strictask.asking import whole_expression
from strictask.trees import Node
from strictask.values import need_kind

DEFAULT_LEVEL = 4


def name_list(cursor):
    """Names in brackets."""
    cursor.need_sign("(")
    names = listed(cursor, one_name)
    cursor.need_sign(")")
    return names


def one_name(cursor):
    """A name, as a member of a list."""
    return cursor.need_name()


def table_made(cursor):
    """What stands behind create table."""
    table = cursor.need_name()
    cursor.need_sign("(")
    parts = listed(cursor, table_part)
    cursor.need_sign(")")
    return Node(168, [table] + parts)


def table_part(cursor):
    """A column, or something that holds for the whole table."""
    if cursor.skip_word("primary"):
        cursor.need_word("key")
        return Node(170, [1] + name_list(cursor))
    if cursor.skip_word("unique"):
        return Node(170, [0] + name_list(cursor))
    if cursor.skip_word("check"):
        return checked(cursor)
    if cursor.skip_word("foreign"):
        return foreign_key(cursor)
    return column(cursor)


def checked(cursor):
    """What stands behind check."""
    cursor.need_sign("(")
    tested = whole_expression(cursor)
    cursor.need_sign(")")
    return Node(171, [tested])


def foreign_key(cursor):
    """What stands behind foreign."""
    cursor.need_word("key")
    own = name_list(cursor)
    cursor.need_word("references")
    table = cursor.need_name()
    others = name_list(cursor)
    cascade = 0
    if cursor.skip_word("on"):
        cursor.need_word("delete")
        cursor.need_word("cascade")
        cascade = 1
    return Node(172, [cascade, table, len(own)] + own + others)


def column(cursor):
    """A column with its kind."""
    name = cursor.need_name()
    kind = need_kind(cursor)
    full = 0
    if cursor.skip_word("not"):
        cursor.need_word("null")
        full = 1
    filling = expression(cursor, DEFAULT_LEVEL) if cursor.skip_word("default") else Node(147, [])
    return Node(169, [name, kind, full, filling])
