"""What the tests ask of read, and how they tell its answers."""

from strictask.reading import read


def as_bytes(text):
    return text.encode("utf-8") if isinstance(text, str) else bytes(text)


def answer(text):
    """The written tree as a str, or an error as (number, place, word)."""
    given = read(list(as_bytes(text)))
    if given[0] == 0:
        return bytes(given[1:]).decode("ascii")
    return given[0], given[1], bytes(given[2:]).decode("ascii")


def hexed(name):
    """A text as trees are written with it."""
    return "'" + as_bytes(name).hex()


def asked(*items, distinct=0, sources="", where="147()", groups="", having="147()"):
    """The tree of what begins with select."""
    return f"144({distinct} 145({' '.join(items)}) 146({sources}) {where} 148({groups}) {having})"


def plain(expression):
    """An item without a name."""
    return f"149({expression} ')"


def ask(expression):
    """The tree of the command that asks for one expression."""
    return f"160({asked(plain(expression))})"


def col(name):
    """A column without a table."""
    return f"129(' {hexed(name)})"


def num(number):
    """A whole number's value as an expression."""
    return f"128(18({number}))"


# The tree of the question: select 1.
ONE = asked(plain(num(1)))


def place_of(mark, text):
    """The text without the mark, and the place where the mark stood."""
    place = as_bytes(text[:text.index(mark)])
    return text.replace(mark, "", 1), len(place)


class Checks:
    """To be mixed into a TestCase."""

    def tree(self, text, tree):
        with self.subTest(text=text):
            self.assertEqual(answer(text), tree)

    def expr(self, text, tree):
        """What stands behind select has this tree."""
        self.tree("select " + text, ask(tree))

    def wrong(self, text, number, word=""):
        """The error is told at the place where ^ stands in the text."""
        clean, place = place_of("^", text)
        with self.subTest(text=text):
            self.assertEqual(answer(clean), (number, place, word))
