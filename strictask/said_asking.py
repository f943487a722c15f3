"""Expressions and questions, as they are said. They stand in one file because each may hold the other."""

from strictask.operators import COMPARED_LEVEL
from strictask.operators import COMPARISON_LEVEL
from strictask.operators import OPERAND_LEVEL
from strictask.said_values import say_kind
from strictask.said_values import say_value
from strictask.speech import say_listed

OPERATION_TAG = 132
MEMBERSHIP_TAGS = (134, 135)
ALL_COLUMNS_TAG = 131
SELECTION_TAG = 144
NO_CONDITION_TAG = 147
TABLE_TAG = 150
ASKED_SOURCE_TAG = 151
UNITED_TAG = 153
ORDERED_TAG = 154

# By an operation's number: its level, and how it is said.
LEVELS = {
    3: 0, 2: 1, 1: 2, 4: 3, 5: 3, 8: 3, 9: 3, 10: 3, 11: 3, 12: 3, 13: 3, 49: 3, 90: 3, 42: 4, 16: 5, 17: 5,
    18: 6, 19: 6, 20: 6, 21: 7,
}
BEFORE = {1: "not ", 21: "- "}
BEHIND = {4: " is null", 5: " is true"}
BETWEEN = {
    3: "or", 2: "and", 8: "=", 9: "<>", 10: "<", 11: "<=", 12: ">", 13: ">=", 49: "like", 90: "found", 42: "||",
    16: "+", 17: "-", 18: "*", 19: "/",
}
# The one operator whose sign no text of the program holds: it is said as its byte.
REMAINDER = 20
REMAINDER_BYTE = 37

UNIONS = (" union all ", " union ", " intersect ", " except ", " intersect all ", " except all ")
JOINS = (" join ", " left join ", " full join ")


def say_whole_expression(speech, tree):
    """Say an expression where one of any level may stand."""
    say_expression(speech, tree, 0)


def say_expression(speech, tree, lowest):
    """Say an expression, in brackets if its level is below the lowest that may stand there."""
    in_brackets = level_of(tree) < lowest
    if in_brackets:
        speech.put("(")
    EXPRESSIONS[tree.tag](speech, tree.parts)
    if in_brackets:
        speech.put(")")


def level_of(tree):
    """The level of an expression."""
    if tree.tag == OPERATION_TAG:
        return LEVELS[tree.parts[0]]
    return COMPARISON_LEVEL if tree.tag in MEMBERSHIP_TAGS else OPERAND_LEVEL


def say_operation(speech, parts):
    """Say an operator with its one operand or its two."""
    number = parts[0]
    level = LEVELS[number]
    if number in BEFORE:
        speech.put(BEFORE[number])
        say_expression(speech, parts[1], level)
    elif number in BEHIND:
        say_expression(speech, parts[1], COMPARED_LEVEL)
        speech.put(BEHIND[number])
    else:
        say_expression(speech, parts[1], COMPARED_LEVEL if level == COMPARISON_LEVEL else level)
        say_operator(speech, number)
        say_expression(speech, parts[2], level + 1)


def say_operator(speech, number):
    """Say what stands between two operands."""
    speech.put(" ")
    if number == REMAINDER:
        speech.put_byte(REMAINDER_BYTE)
    else:
        speech.put(BETWEEN[number])
    speech.put(" ")


def say_plain_value(speech, parts):
    """Say a value as an expression."""
    say_value(speech, parts[0])


def say_column(speech, parts):
    """Say a column, of a named table or not."""
    if parts[0]:
        speech.put_name(parts[0])
        speech.put(".")
    speech.put_name(parts[1])


def say_given(speech, parts):
    """Say a given value, which is counted from 1 on."""
    speech.put("$" + str(parts[0] + 1))


def say_membership(speech, parts):
    """Say what is tested, and the members of a list."""
    say_expression(speech, parts[0], COMPARED_LEVEL)
    speech.put(" in ")
    say_bracketed(speech, parts[1:])


def say_bracketed(speech, members):
    """Say expressions in brackets."""
    speech.put("(")
    say_listed(speech, members, say_whole_expression)
    speech.put(")")


def say_asked_membership(speech, parts):
    """Say what is tested, and a question."""
    say_expression(speech, parts[0], COMPARED_LEVEL)
    speech.put(" in ")
    say_bracketed_question(speech, parts[1])


def say_existence(speech, parts):
    """Say whether a question has an answer."""
    speech.put("exists ")
    say_bracketed_question(speech, parts[0])


def say_asked(speech, parts):
    """Say a question as an expression."""
    say_bracketed_question(speech, parts[0])


def say_choice(speech, parts):
    """Say from case to end, always with else: the tree doesn't tell whether the text had one."""
    speech.put("case")
    for at in range(0, len(parts) - 1, 2):
        speech.put(" when ")
        say_whole_expression(speech, parts[at])
        speech.put(" then ")
        say_whole_expression(speech, parts[at + 1])
    speech.put(" else ")
    say_whole_expression(speech, parts[-1])
    speech.put(" end")


def say_conversion(speech, parts):
    """Say a cast."""
    speech.put("cast(")
    say_whole_expression(speech, parts[1])
    speech.put(" as ")
    say_kind(speech, parts[0])
    speech.put(")")


def say_call(speech, parts):
    """Say a call with its arguments."""
    speech.put_name(parts[0])
    say_bracketed(speech, parts[1:])


def say_special_call(speech, parts):
    """Say a call of all rows, or of arguments of which each counts once."""
    speech.put_name(parts[0])
    if parts[1] == 0:
        speech.put("(*)")
        return
    speech.put("(distinct ")
    say_listed(speech, parts[2:], say_whole_expression)
    speech.put(")")


def say_windowed(speech, parts):
    """Say a call and what stands behind over."""
    first_key = 2 + parts[1]
    say_whole_expression(speech, parts[0])
    speech.put(" over (")
    if parts[1] > 0:
        speech.put("partition by ")
        say_listed(speech, parts[2:first_key], say_whole_expression)
    say_ordering(speech, parts[first_key:])
    speech.put(")")


EXPRESSIONS = {
    128: say_plain_value, 129: say_column, 130: say_given, 132: say_operation, 134: say_membership,
    135: say_asked_membership, 136: say_existence, 137: say_asked, 138: say_choice, 139: say_conversion,
    140: say_call, 141: say_special_call, 142: say_windowed,
}


def say_ordering(speech, keys):
    """Say the keys, if there are any."""
    if keys:
        speech.put(" order by ")
        say_listed(speech, keys, say_key)


def say_key(speech, key):
    """Say one key."""
    say_whole_expression(speech, key.parts[0])
    if key.parts[1] == 1:
        speech.put(" desc")


def say_question(speech, tree):
    """Say a question."""
    if tree.tag == SELECTION_TAG:
        say_selection(speech, tree.parts)
    elif tree.tag == UNITED_TAG:
        say_united(speech, tree.parts)
    else:
        say_ordered(speech, tree.parts)


def say_bracketed_question(speech, tree):
    """Say a question in brackets."""
    speech.put("(")
    say_question(speech, tree)
    speech.put(")")


def say_left_question(speech, tree):
    """Say a question that goes on: what it was ordered or bounded by before stays in brackets."""
    if tree.tag == ORDERED_TAG:
        say_bracketed_question(speech, tree)
    else:
        say_question(speech, tree)


def say_united(speech, parts):
    """Say two questions and what stands between them."""
    say_left_question(speech, parts[1])
    speech.put(UNIONS[parts[0]])
    if parts[2].tag == SELECTION_TAG:
        say_question(speech, parts[2])
    else:
        say_bracketed_question(speech, parts[2])


def say_ordered(speech, parts):
    """Say a question, its order and its bounds."""
    say_left_question(speech, parts[0])
    say_ordering(speech, parts[3:])
    if parts[2] >= 0:
        speech.put(" limit " + str(parts[2]))
    if parts[1] > 0:
        speech.put(" offset " + str(parts[1]))


def say_selection(speech, parts):
    """Say what begins with select."""
    speech.put("select distinct " if parts[0] == 1 else "select ")
    say_listed(speech, parts[1].parts, say_item)
    if parts[2].parts:
        speech.put(" from ")
        say_listed(speech, parts[2].parts, say_source)
    say_condition(speech, " where ", parts[3])
    if parts[4].parts:
        speech.put(" group by ")
        say_listed(speech, parts[4].parts, say_whole_expression)
    say_condition(speech, " having ", parts[5])


def say_condition(speech, before, tree):
    """Say a condition behind its word, if there is one."""
    if tree.tag != NO_CONDITION_TAG:
        speech.put(before)
        say_whole_expression(speech, tree)


def say_item(speech, tree):
    """Say one thing that is asked for."""
    if tree.tag != ALL_COLUMNS_TAG:
        say_whole_expression(speech, tree.parts[0])
        say_name_behind_as(speech, tree.parts[1])
        return
    if tree.parts[0]:
        speech.put_name(tree.parts[0])
        speech.put(".")
    speech.put("*")


def say_name_behind_as(speech, name):
    """Say the name that something is given, if there is one."""
    if name:
        speech.put(" as ")
        speech.put_name(name)


def say_source(speech, tree):
    """Say a source: a table, a question, or two that are joined."""
    if tree.tag == TABLE_TAG:
        speech.put_name(tree.parts[0])
        say_name_behind_as(speech, tree.parts[1])
    elif tree.tag == ASKED_SOURCE_TAG:
        say_bracketed_question(speech, tree.parts[0])
        say_name_behind_as(speech, tree.parts[1])
    else:
        say_joined(speech, tree.parts)


def say_joined(speech, parts):
    """Say two sources, how they are joined and by what."""
    say_source(speech, parts[1])
    speech.put(JOINS[parts[0]])
    say_source(speech, parts[2])
    speech.put(" on ")
    say_whole_expression(speech, parts[3])
