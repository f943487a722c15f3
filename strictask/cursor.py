"""The place that reading has come to."""

from strictask.lexemes import QUOTED
from strictask.refusals import NoName
from strictask.refusals import NotThis
from strictask.refusals import TooDeep

MOST_DEPTH = 40


class Cursor:
    """The tokens of a text, the one that comes next, and how much of the depth is left."""

    def __init__(self, found):
        self.found = found
        self.at = 0
        self.token = found[0]
        self.spare = MOST_DEPTH

    def ahead(self, far):
        """The token so far behind the one that comes next. Nobody looks behind the end."""
        return self.found[self.at + far]

    def step(self):
        """Go on by one token."""
        self.token = self.ahead(1)
        self.at += 1

    def has_word(self, word):
        """Whether this word comes next."""
        return self.token.is_word(word)

    def has_sign(self, sign):
        """Whether this sign comes next."""
        return self.token.is_sign(sign)

    def skip_word(self, word):
        """Go on behind this word if it comes next; tell whether it did."""
        came = self.has_word(word)
        if came:
            self.step()
        return came

    def skip_sign(self, sign):
        """Go on behind this sign if it comes next; tell whether it did."""
        came = self.has_sign(sign)
        if came:
            self.step()
        return came

    def need_word(self, word):
        """Go on behind this word, which must come next."""
        if not self.skip_word(word):
            raise NotThis(self.token.place, word)

    def need_sign(self, sign):
        """Go on behind this sign, which must come next."""
        if not self.skip_sign(sign):
            raise NotThis(self.token.place, sign)

    def need_name(self):
        """Go on behind the name that must come next, and give its bytes."""
        token = self.token
        if not token.is_name():
            raise NoName(token.place)
        self.step()
        return token.worth if token.kind == QUOTED else [ord(letter) for letter in token.worth]

    def take_depth(self):
        """Take one of the depth for the token that comes next."""
        if self.spare == 0:
            raise TooDeep(self.token.place)
        self.spare -= 1

    def give_depth(self):
        """Give the one back that was taken last."""
        self.spare += 1
