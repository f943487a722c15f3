"""Expressions and questions. They stand in one file because each may hold the other."""

from strictask.lexemes import GIVEN
from strictask.numerals import need_count
from strictask.operators import COMPARED_LEVEL
from strictask.operators import COMPARISON_LEVEL
from strictask.operators import MINUS_LEVEL
from strictask.operators import NOT_LEVEL
from strictask.operators import OPERAND_LEVEL
from strictask.operators import begins_comparison
from strictask.operators import begins_match
from strictask.operators import chain_of
from strictask.operators import comparison_number
from strictask.operators import skip_join
from strictask.operators import skip_union
from strictask.refusals import NoExpression
from strictask.refusals import NotThis
from strictask.trees import Node
from strictask.values import need_kind
from strictask.values import value


def listed(cursor, member):
    """One or more of what the function member goes on behind, with commas between."""
    members = [member(cursor)]
    while cursor.skip_sign(","):
        members.append(member(cursor))
    return members


def whole_expression(cursor):
    """An expression of any level."""
    return expression(cursor, 0)


def expression(cursor, lowest):
    """An expression of the level lowest, or of one above it."""
    level = beginning_level(cursor.token, lowest)
    left = operand(cursor) if level == OPERAND_LEVEL else prefixed(cursor, level)
    while True:
        chain = chain_of(cursor.token)
        if chain is not None and lowest <= chain[0] <= level:
            level = chain[0]
            cursor.step()
            left = Node(132, [chain[1], left, expression(cursor, level + 1)])
        elif lowest <= COMPARISON_LEVEL < level and begins_comparison(cursor.token):
            level = COMPARISON_LEVEL
            left = comparison(cursor, left)
        else:
            return left


def beginning_level(token, lowest):
    """The level of what an expression begins with, before any operator."""
    if lowest <= NOT_LEVEL and token.is_word("not"):
        return NOT_LEVEL
    if token.is_sign("-"):
        return MINUS_LEVEL
    return OPERAND_LEVEL


def prefixed(cursor, level):
    """The word not or the sign -, and an expression of the same level."""
    cursor.take_depth()
    cursor.step()
    inner = expression(cursor, level)
    cursor.give_depth()
    return Node(132, [1 if level == NOT_LEVEL else 21, inner])


def comparison(cursor, left):
    """A comparison, from behind its first operand on."""
    number = comparison_number(cursor.token)
    if number is not None:
        cursor.step()
        return Node(132, [number, left, expression(cursor, COMPARED_LEVEL)])
    if cursor.skip_word("is"):
        return state(cursor, left)
    if cursor.skip_word("not"):
        if not begins_match(cursor.token):
            raise NotThis(cursor.token.place, "in")
        return Node(132, [1, matching(cursor, left)])
    return matching(cursor, left)


def state(cursor, left):
    """What stands behind is."""
    negated = cursor.skip_word("not")
    if cursor.skip_word("true"):
        tested = Node(132, [5, left])
    else:
        cursor.need_word("null")
        tested = Node(132, [4, left])
    return Node(132, [1, tested]) if negated else tested


def matching(cursor, left):
    """One of the words that may have a not before them, and what stands behind it."""
    if cursor.has_word("in"):
        return membership(cursor, left)
    word = cursor.token.worth
    cursor.step()
    right = expression(cursor, COMPARED_LEVEL)
    if word != "between":
        return Node(132, [49 if word == "like" else 90, left, right])
    cursor.need_word("and")
    last = expression(cursor, COMPARED_LEVEL)
    return Node(132, [2, Node(132, [13, left, right]), Node(132, [11, left, last])])


def membership(cursor, left):
    """The word in, and a list or a question in brackets."""
    cursor.take_depth()
    cursor.step()
    cursor.need_sign("(")
    if cursor.has_word("select"):
        tested = Node(135, [left, question(cursor)])
    else:
        tested = Node(134, [left] + listed(cursor, whole_expression))
    cursor.need_sign(")")
    cursor.give_depth()
    return tested


def operand(cursor):
    """An expression of the highest level."""
    token = cursor.token
    if token.is_sign("("):
        return bracketed(cursor)
    if token.kind == GIVEN:
        cursor.step()
        return Node(130, [token.worth - 1])
    plain = value(cursor)
    if plain is not None:
        return Node(128, [plain])
    if token.is_word("case"):
        return choice(cursor)
    if token.is_word("cast"):
        return conversion(cursor)
    if token.is_word("exists"):
        return existence(cursor)
    if token.is_name():
        return named(cursor)
    raise NoExpression(token.place)


def bracketed(cursor):
    """An expression or a question in brackets."""
    cursor.take_depth()
    cursor.step()
    if cursor.has_word("select"):
        inner = Node(137, [question(cursor)])
    else:
        inner = whole_expression(cursor)
    cursor.need_sign(")")
    cursor.give_depth()
    return inner


def choice(cursor):
    """From case to end."""
    cursor.take_depth()
    cursor.step()
    parts = []
    cursor.need_word("when")
    branching = True
    while branching:
        parts.append(whole_expression(cursor))
        cursor.need_word("then")
        parts.append(whole_expression(cursor))
        branching = cursor.skip_word("when")
    if cursor.skip_word("else"):
        parts.append(whole_expression(cursor))
    else:
        parts.append(Node(128, [Node(16, [])]))
    cursor.need_word("end")
    cursor.give_depth()
    return Node(138, parts)


def conversion(cursor):
    """A cast."""
    cursor.take_depth()
    cursor.step()
    cursor.need_sign("(")
    inner = whole_expression(cursor)
    cursor.need_word("as")
    kind = need_kind(cursor)
    cursor.need_sign(")")
    cursor.give_depth()
    return Node(139, [kind, inner])


def existence(cursor):
    """The word exists, and a question in brackets."""
    cursor.take_depth()
    cursor.step()
    cursor.need_sign("(")
    inner = question(cursor)
    cursor.need_sign(")")
    cursor.give_depth()
    return Node(136, [inner])


def named(cursor):
    """A column, of a named table or not, or a call."""
    name = cursor.need_name()
    if cursor.skip_sign("."):
        return Node(129, [name, cursor.need_name()])
    if not cursor.has_sign("("):
        return Node(129, [[], name])
    made = call(cursor, name)
    return windowed(cursor, made) if cursor.skip_word("over") else made


def call(cursor, name):
    """A call, from its bracket on."""
    cursor.take_depth()
    cursor.step()
    if cursor.has_sign(")"):
        made = Node(140, [name])
    elif cursor.skip_sign("*"):
        made = Node(141, [name, 0])
    elif cursor.skip_word("distinct"):
        made = Node(141, [name, 1] + listed(cursor, whole_expression))
    else:
        made = Node(140, [name] + listed(cursor, whole_expression))
    cursor.need_sign(")")
    cursor.give_depth()
    return made


def windowed(cursor, made):
    """What stands behind over, for a call that was made before it."""
    if cursor.has_sign("("):
        cursor.take_depth()
    cursor.need_sign("(")
    parts = []
    if cursor.skip_word("partition"):
        cursor.need_word("by")
        parts = listed(cursor, whole_expression)
    keys = ordering(cursor)
    cursor.need_sign(")")
    cursor.give_depth()
    return Node(142, [made, len(parts)] + parts + keys)


def ordering(cursor):
    """The keys behind order by, or none."""
    if not cursor.skip_word("order"):
        return []
    cursor.need_word("by")
    return listed(cursor, key_part)


def key_part(cursor):
    """A key: what is ordered by, and whether from above."""
    ordered = expression(cursor, 0)
    if cursor.skip_word("desc"):
        return Node(155, [ordered, 1])
    cursor.skip_word("asc")
    return Node(155, [ordered, 0])


def question(cursor):
    """Terms with union and its like between, then the order and the bounds of what is answered."""
    asked = term(cursor)
    how = skip_union(cursor)
    while how is not None:
        asked = Node(153, [how, asked, term(cursor)])
        how = skip_union(cursor)
    keys = ordering(cursor)
    limit = need_count(cursor) if cursor.skip_word("limit") else -1
    offset = need_count(cursor) if cursor.skip_word("offset") else 0
    if keys or limit >= 0 or offset > 0:
        return Node(154, [asked, offset, limit] + keys)
    return asked


def term(cursor):
    """A question in brackets, or one that begins with select."""
    in_brackets = cursor.has_sign("(")
    if not in_brackets and not cursor.has_word("select"):
        raise NotThis(cursor.token.place, "select")
    cursor.take_depth()
    cursor.step()
    if in_brackets:
        asked = question(cursor)
        cursor.need_sign(")")
    else:
        asked = selection(cursor)
    cursor.give_depth()
    return asked


def selection(cursor):
    """What stands behind select."""
    distinct = 1 if cursor.skip_word("distinct") else 0
    items = Node(145, listed(cursor, item))
    sources = Node(146, listed(cursor, source) if cursor.skip_word("from") else [])
    where = condition(cursor, "where")
    groups = []
    if cursor.skip_word("group"):
        cursor.need_word("by")
        groups = listed(cursor, whole_expression)
    having = condition(cursor, "having")
    return Node(144, [distinct, items, sources, where, Node(148, groups), having])


def condition(cursor, word):
    """The expression behind the word, or what stands for none."""
    return whole_expression(cursor) if cursor.skip_word(word) else Node(147, [])


def item(cursor):
    """One thing that is asked for."""
    if cursor.skip_sign("*"):
        return Node(131, [[]])
    if cursor.token.is_name() and cursor.ahead(1).is_sign(".") and cursor.ahead(2).is_sign("*"):
        table = cursor.need_name()
        cursor.step()
        cursor.step()
        return Node(131, [table])
    asked = whole_expression(cursor)
    return Node(149, [asked, name_behind_as(cursor)])


def name_behind_as(cursor):
    """The name behind as, or an empty one."""
    return cursor.need_name() if cursor.skip_word("as") else []


def source(cursor):
    """Sources that are joined, from the left."""
    joined = single_source(cursor)
    how = skip_join(cursor)
    while how is not None:
        right = single_source(cursor)
        cursor.need_word("on")
        joined = Node(152, [how, joined, right, whole_expression(cursor)])
        how = skip_join(cursor)
    return joined


def single_source(cursor):
    """A table, or a question in brackets with a name."""
    if not cursor.has_sign("("):
        table = cursor.need_name()
        return Node(150, [table, name_behind_as(cursor)])
    cursor.take_depth()
    cursor.step()
    asked = question(cursor)
    cursor.need_sign(")")
    cursor.give_depth()
    cursor.need_word("as")
    return Node(151, [asked, cursor.need_name()])
