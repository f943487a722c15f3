"""What is asked of the program: a text is read, said again, and looked at token by token."""

from strictask.commands import command
from strictask.cursor import Cursor
from strictask.lexemes import END
from strictask.lexing import lexed
from strictask.refusals import NotEnded
from strictask.refusals import Refusal
from strictask.refusals import TooDeep
from strictask.said_commands import spoken
from strictask.speech import spelled_bytes
from strictask.trees import written

MOST_BYTES = 65536
MOST_TREE_DEPTH = 40


def read(text):
    """0 and the bytes of the written tree, or an error's number, its place, and the bytes of its word or sign."""
    try:
        tree = tree_of(text)
    except Refusal as e:
        return refusal_answer(e.number, e.place, e.word)
    return [0] + spelled_bytes(written(tree))


def said(text):
    """0 and the bytes of what is said of the tree, or an error as read answers it."""
    try:
        tree = tree_of(text)
    except Refusal as e:
        return refusal_answer(e.number, e.place, e.word)
    return [0] + spoken(tree)


def tokens(text):
    """0, then of each token, the end last, its place and its sort; or 1 and the place where none can be; or 8 and 0."""
    try:
        found = tokens_of(text)
    except Refusal as e:
        return refusal_answer(e.number, e.place, e.word)
    answer = [0]
    for token in found:
        answer.append(token.place)
        answer.append(token.kind)
    return answer


def refusal_answer(number, place, word):
    """An error's number, its place, and the bytes of its word or sign."""
    return [number, place] + spelled_bytes(word)


def tokens_of(text):
    """The tokens of a text that isn't too long."""
    if len(text) > MOST_BYTES:
        raise TooDeep(0)
    return lexed(text)


def tree_of(text):
    """The tree of the command that the text is."""
    cursor = Cursor(tokens_of(text))
    tree = command(cursor)
    if cursor.token.kind != END:
        raise NotEnded(cursor.token.place)
    if tree.depth > MOST_TREE_DEPTH:
        raise TooDeep(0)
    return tree
