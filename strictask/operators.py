"""The levels of expressions, and the words and signs between operands, between questions and between sources."""

from strictask.lexemes import SIGN
from strictask.lexemes import WORD

NOT_LEVEL = 2
COMPARISON_LEVEL = 3
COMPARED_LEVEL = 4
MINUS_LEVEL = 7
OPERAND_LEVEL = 8

# Operators that others of their level may follow: the level, and the number that the tree has for them.
CHAIN_WORDS = {"or": (0, 3), "and": (1, 2)}
CHAIN_SIGNS = {"||": (4, 42), "+": (5, 16), "-": (5, 17), "*": (6, 18), "/": (6, 19), "percent": (6, 20)}

COMPARISONS = {"=": 8, "<>": 9, "<": 10, "<=": 11, ">": 12, ">=": 13}

# The words that may have a not before them.
MATCHES = ("between", "like", "found", "in")


def chain_of(token):
    """The level and the number of an operator that others of its level may follow, or None."""
    if token.kind == WORD:
        return CHAIN_WORDS.get(token.worth)
    if token.kind == SIGN:
        return CHAIN_SIGNS.get(token.worth)
    return None


def comparison_number(token):
    """The number that the tree has for a comparing sign, or None."""
    return COMPARISONS.get(token.worth) if token.kind == SIGN else None


def begins_match(token):
    """Whether the token is one of the words that may have a not before them."""
    return token.kind == WORD and token.worth in MATCHES


def begins_comparison(token):
    """Whether a comparison goes on here, behind its first operand."""
    if comparison_number(token) is not None or begins_match(token):
        return True
    return token.is_word("is") or token.is_word("not")


def skip_union(cursor):
    """Go on behind what may stand between two terms, and give its number; None if nothing of it comes next."""
    if cursor.skip_word("union"):
        return 0 if cursor.skip_word("all") else 1
    if cursor.skip_word("intersect"):
        return 4 if cursor.skip_word("all") else 2
    if cursor.skip_word("except"):
        return 5 if cursor.skip_word("all") else 3
    return None


def skip_join(cursor):
    """Go on behind what may stand between two sources, and give its number; None if nothing of it comes next."""
    if cursor.skip_word("join"):
        return 0
    if cursor.skip_word("inner"):
        how = 0
    elif cursor.skip_word("left"):
        how = 1
    elif cursor.skip_word("full"):
        how = 2
    else:
        return None
    cursor.need_word("join")
    return how
