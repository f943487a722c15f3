"""Commands, as they are said."""

from strictask.commands import ALL_RIGHTS
from strictask.said_asking import say_bracketed
from strictask.said_asking import say_condition
from strictask.said_asking import say_question
from strictask.said_asking import say_whole_expression
from strictask.said_tables import say_table_made
from strictask.speech import Speech
from strictask.speech import say_listed
from strictask.speech import say_names

ROWS_TAG = 163

DROPS = ("drop table ", "drop index ", "drop view ", "drop user ")
RIGHTS = ((1, "select"), (2, "insert"), (4, "update"), (8, "delete"))


def spoken(tree):
    """The bytes of the command, said. The caller has seen that it isn't too deep to be walked by calls."""
    speech = Speech()
    say_command(speech, tree)
    return speech.content


def say_command(speech, tree):
    """Say a command."""
    COMMANDS[tree.tag](speech, tree.parts)


def say_command_name(speech, before, name):
    """Say what begins a command, and the name behind it."""
    speech.put(before)
    speech.put_name(name)


def say_asked_command(speech, parts):
    """Say a question as a command."""
    say_question(speech, parts[0])


def say_insertion(speech, parts):
    """Say where rows go, and the rows or the question that they come from."""
    say_command_name(speech, "insert into ", parts[0])
    if parts[1].parts:
        say_names(speech, parts[1].parts)
    if parts[2].tag == ROWS_TAG:
        speech.put(" values ")
        say_listed(speech, parts[2].parts, say_row)
    else:
        speech.put(" ")
        say_question(speech, parts[2])


def say_row(speech, tree):
    """Say one row."""
    say_bracketed(speech, tree.parts)


def say_change(speech, parts):
    """Say what columns are set to, and in which rows."""
    say_command_name(speech, "update ", parts[0])
    speech.put(" set ")
    say_listed(speech, parts[2:], say_setting)
    say_condition(speech, " where ", parts[1])


def say_setting(speech, tree):
    """Say a column and what it is set to."""
    speech.put_name(tree.parts[0])
    speech.put(" = ")
    say_whole_expression(speech, tree.parts[1])


def say_deletion(speech, parts):
    """Say which rows go."""
    say_command_name(speech, "delete from ", parts[0])
    say_condition(speech, " where ", parts[1])


def say_drop(speech, parts):
    """Say what is dropped."""
    say_command_name(speech, DROPS[parts[0]], parts[1])


def say_index_made(speech, parts):
    """Say an index, unique or not."""
    say_command_name(speech, "create unique index " if parts[2] == 1 else "create index ", parts[0])
    speech.put(" on ")
    speech.put_name(parts[1])
    say_names(speech, parts[3:])


def say_text_index_made(speech, parts):
    """Say an index of the words of one column."""
    say_command_name(speech, "create text index ", parts[0])
    speech.put(" on ")
    speech.put_name(parts[1])
    say_names(speech, parts[2:])


def say_view_made(speech, parts):
    """Say a view and its question."""
    say_command_name(speech, "create view ", parts[0])
    speech.put(" as ")
    say_question(speech, parts[1])


def say_user_made(speech, parts):
    """Say a user and the password."""
    say_command_name(speech, "create user ", parts[0])
    speech.put(" password ")
    speech.put_text(parts[1])


def say_grant(speech, parts):
    """Say who may do what."""
    speech.put("grant " + spelled_rights(parts[0]) + " on ")
    speech.put_name(parts[1])
    speech.put(" to ")
    speech.put_name(parts[2])
    if parts[3] == 1:
        speech.put(" with grant")


def say_revocation(speech, parts):
    """Say who may no longer do what."""
    speech.put("revoke " + spelled_rights(parts[0]) + " on ")
    speech.put_name(parts[1])
    speech.put(" from ")
    speech.put_name(parts[2])


def spelled_rights(rights):
    """The rights that a number stands for."""
    if rights == ALL_RIGHTS:
        return "all"
    return ", ".join([word for number, word in RIGHTS if rights & number != 0])


def say_begin(speech, parts):
    """Say that something begins."""
    speech.put("begin strict" if parts[0] == 1 else "begin")


def say_commit(speech, parts):
    """Say that what was begun holds."""
    speech.put("commit")


def say_rollback(speech, parts):
    """Say how far what was begun is taken back."""
    speech.put("rollback")
    if parts[0]:
        say_command_name(speech, " to ", parts[0])


def say_savepoint(speech, parts):
    """Say a place to go back to."""
    say_command_name(speech, "savepoint ", parts[0])


def say_preparation(speech, parts):
    """Say a command that gets a name."""
    say_command_name(speech, "prepare ", parts[0])
    speech.put(" as ")
    say_command(speech, parts[1])


def say_execution(speech, parts):
    """Say which prepared command is meant, and what it is given."""
    say_command_name(speech, "execute ", parts[0])
    if len(parts) > 1:
        speech.put(" ")
        say_bracketed(speech, parts[1:])


def say_explanation(speech, parts):
    """Say the question that is to be explained."""
    speech.put("explain ")
    say_question(speech, parts[0])


def say_analysis(speech, parts):
    """Say what is looked through."""
    speech.put("analyze")
    if parts[0]:
        say_command_name(speech, " ", parts[0])


def say_checkpoint(speech, parts):
    """Nothing is said behind it."""
    speech.put("checkpoint")


COMMANDS = {
    160: say_asked_command, 161: say_insertion, 165: say_change, 167: say_deletion, 168: say_table_made,
    173: say_drop, 174: say_index_made, 175: say_text_index_made, 176: say_view_made, 177: say_user_made,
    178: say_grant, 179: say_revocation, 180: say_begin, 181: say_commit, 182: say_rollback, 183: say_savepoint,
    184: say_preparation, 185: say_execution, 186: say_explanation, 187: say_analysis, 188: say_checkpoint,
}
