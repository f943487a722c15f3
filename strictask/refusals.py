"""What can be wrong with a text: one error class for each number."""


class Refusal(Exception):
    """A number, a place, and the word or sign that would be right there (or an empty text)."""

    def __init__(self, number, place, word):
        self.number = number
        self.place = place
        self.word = word


class NoToken(Refusal):
    """No token can be here."""

    def __init__(self, place):
        Refusal.__init__(self, 1, place, "")


class NoExpression(Refusal):
    """An expression must stand here, or a count, or a password's text."""

    def __init__(self, place):
        Refusal.__init__(self, 2, place, "")


class NoName(Refusal):
    """A name must stand here."""

    def __init__(self, place):
        Refusal.__init__(self, 3, place, "")


class NoKind(Refusal):
    """The written kind of a column or a cast must stand here."""

    def __init__(self, place):
        Refusal.__init__(self, 4, place, "")


class NotThis(Refusal):
    """This one word or sign must stand here."""

    def __init__(self, place, word):
        Refusal.__init__(self, 5, place, word)


class NotEnded(Refusal):
    """The text must have ended."""

    def __init__(self, place):
        Refusal.__init__(self, 6, place, "")


class NoCommand(Refusal):
    """A command must begin here."""

    def __init__(self, place):
        Refusal.__init__(self, 7, place, "")


class TooDeep(Refusal):
    """Too deep, or too long a text."""

    def __init__(self, place):
        Refusal.__init__(self, 8, place, "")


class NoValue(Refusal):
    """What stands here looks like a value and isn't one."""

    def __init__(self, place):
        Refusal.__init__(self, 9, place, "")
