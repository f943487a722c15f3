"""A token: what it is, where it stands, and what it says."""

# The kinds of tokens. Whoever asks for the tokens of a text is told just these numbers.
WORD = 0
QUOTED = 1
NUMBER = 2
TEXT = 3
BYTES = 4
GIVEN = 5
SIGN = 6
END = 7

KEPT_WORDS = (
    "all", "and", "as", "between", "by", "case", "cast", "distinct", "else", "end", "except", "exists", "false",
    "found", "from", "full", "group", "having", "in", "inner", "intersect", "is", "join", "left", "like", "limit",
    "not", "null", "offset", "on", "or", "order", "over", "partition", "select", "set", "then", "true", "union",
    "values", "when", "where",
)


class Token:
    """A token from its place to before its end.

    Its worth: of a word or a number what is written, in small letters; of a quoted name, a text or bytes a list
    of its bytes; of a given value its number; of a sign the name that the lexing gives it; of the end nothing.
    """

    def __init__(self, kind, place, end, worth):
        self.kind = kind
        self.place = place
        self.end = end
        self.worth = worth

    def is_word(self, word):
        """Whether it is this word, not in quotes."""
        return self.kind == WORD and self.worth == word

    def is_sign(self, sign):
        """Whether it is this sign."""
        return self.kind == SIGN and self.worth == sign

    def is_name(self):
        """Whether it can be a name: in quotes, or a word that isn't kept."""
        return self.kind == QUOTED or (self.kind == WORD and self.worth not in KEPT_WORDS)
