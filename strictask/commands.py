"""Commands."""

from strictask.asking import condition
from strictask.asking import listed
from strictask.asking import question
from strictask.asking import whole_expression
from strictask.lexemes import TEXT
from strictask.lexemes import WORD
from strictask.refusals import NoCommand
from strictask.refusals import NoExpression
from strictask.refusals import NotThis
from strictask.tables import name_list
from strictask.tables import table_made
from strictask.trees import Node

ALL_RIGHTS = 15


def command(cursor):
    """A command, or one that is prepared."""
    if not cursor.skip_word("prepare"):
        return plain_command(cursor)
    name = cursor.need_name()
    cursor.need_word("as")
    return Node(184, [name, plain_command(cursor)])


def plain_command(cursor):
    """Any command but prepare."""
    token = cursor.token
    if begins_question(token):
        return Node(160, [question(cursor)])
    if token.kind != WORD or token.worth not in COMMANDS:
        raise NoCommand(token.place)
    cursor.step()
    return COMMANDS[token.worth](cursor)


def begins_question(token):
    """Whether a question begins with this token."""
    return token.is_sign("(") or token.is_word("select")


def insertion(cursor):
    """What stands behind insert."""
    cursor.need_word("into")
    table = cursor.need_name()
    names = []
    if cursor.has_sign("(") and not begins_question(cursor.ahead(1)):
        names = name_list(cursor)
    if cursor.skip_word("values"):
        rows = Node(163, listed(cursor, row))
    else:
        rows = question(cursor)
    return Node(161, [table, Node(162, names), rows])


def row(cursor):
    """The expressions of one row, in brackets."""
    return Node(164, bracketed_list(cursor))


def bracketed_list(cursor):
    """Expressions in brackets."""
    cursor.need_sign("(")
    members = listed(cursor, whole_expression)
    cursor.need_sign(")")
    return members


def change(cursor):
    """What stands behind update."""
    table = cursor.need_name()
    cursor.need_word("set")
    settings = listed(cursor, setting)
    return Node(165, [table, condition(cursor, "where")] + settings)


def setting(cursor):
    """A column and what it is set to."""
    name = cursor.need_name()
    cursor.need_sign("=")
    return Node(166, [name, whole_expression(cursor)])


def deletion(cursor):
    """What stands behind delete."""
    cursor.need_word("from")
    table = cursor.need_name()
    return Node(167, [table, condition(cursor, "where")])


def creation(cursor):
    """What stands behind create."""
    if cursor.skip_word("table"):
        return table_made(cursor)
    if cursor.skip_word("text"):
        return text_index_made(cursor)
    if cursor.skip_word("view"):
        view = cursor.need_name()
        cursor.need_word("as")
        return Node(176, [view, question(cursor)])
    if cursor.skip_word("user"):
        return user_made(cursor)
    return index_made(cursor)


def index_made(cursor):
    """An index, unique or not."""
    unique = 1 if cursor.skip_word("unique") else 0
    cursor.need_word("index")
    index = cursor.need_name()
    cursor.need_word("on")
    table = cursor.need_name()
    return Node(174, [index, table, unique] + name_list(cursor))


def text_index_made(cursor):
    """An index of the words of one column."""
    cursor.need_word("index")
    index = cursor.need_name()
    cursor.need_word("on")
    table = cursor.need_name()
    cursor.need_sign("(")
    name = cursor.need_name()
    cursor.need_sign(")")
    return Node(175, [index, table, name])


def user_made(cursor):
    """A user with a password."""
    user = cursor.need_name()
    cursor.need_word("password")
    token = cursor.token
    if token.kind != TEXT:
        raise NoExpression(token.place)
    cursor.step()
    return Node(177, [user, token.worth])


def drop(cursor):
    """What stands behind drop."""
    for number, word in enumerate(("table", "index", "view", "user")):
        if cursor.skip_word(word):
            return Node(173, [number, cursor.need_name()])
    raise NotThis(cursor.token.place, "table")


def grant(cursor):
    """What stands behind grant."""
    given = rights(cursor)
    cursor.need_word("on")
    table = cursor.need_name()
    cursor.need_word("to")
    user = cursor.need_name()
    passing = 0
    if cursor.skip_word("with"):
        cursor.need_word("grant")
        passing = 1
    return Node(178, [given, table, user, passing])


def revocation(cursor):
    """What stands behind revoke."""
    taken = rights(cursor)
    cursor.need_word("on")
    table = cursor.need_name()
    cursor.need_word("from")
    return Node(179, [taken, table, cursor.need_name()])


def rights(cursor):
    """The rights as one number, each counting once."""
    if cursor.skip_word("all"):
        return ALL_RIGHTS
    together = 0
    for right in listed(cursor, one_right):
        together = together | right
    return together


def one_right(cursor):
    """The number of one right."""
    for number, word in ((1, "select"), (2, "insert"), (4, "update"), (8, "delete")):
        if cursor.skip_word(word):
            return number
    raise NotThis(cursor.token.place, "select")


def begin(cursor):
    """What stands behind begin."""
    return Node(180, [1 if cursor.skip_word("strict") else 0])


def commit(cursor):
    """Nothing stands behind commit."""
    return Node(181, [])


def rollback(cursor):
    """What stands behind rollback."""
    return Node(182, [cursor.need_name() if cursor.skip_word("to") else []])


def savepoint(cursor):
    """What stands behind savepoint."""
    return Node(183, [cursor.need_name()])


def execution(cursor):
    """What stands behind execute."""
    name = cursor.need_name()
    given = bracketed_list(cursor) if cursor.has_sign("(") else []
    return Node(185, [name] + given)


def explanation(cursor):
    """What stands behind explain."""
    return Node(186, [question(cursor)])


def analysis(cursor):
    """What stands behind analyze."""
    return Node(187, [cursor.need_name() if cursor.token.is_name() else []])


def checkpoint(cursor):
    """Nothing stands behind checkpoint."""
    return Node(188, [])


COMMANDS = {
    "insert": insertion, "update": change, "delete": deletion, "create": creation, "drop": drop,
    "grant": grant, "revoke": revocation, "begin": begin, "commit": commit, "rollback": rollback,
    "savepoint": savepoint, "execute": execution, "explain": explanation, "analyze": analysis,
    "checkpoint": checkpoint,
}
