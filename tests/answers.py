"""What the tests ask of read, said and tokens, and how they tell the answers."""

from strictask.reading import read, said, tokens

from token_reader import tokens_as_told

# What is said of a tree so deep at most, and has no more bytes than a text may have, is read as the same tree.
DEEPEST_AGAIN = 20
MOST_BYTES = 65536


def as_bytes(text):
    return text.encode("utf-8") if isinstance(text, str) else bytes(text)


def answer(text):
    """The written tree as a str, or an error as (number, place, word)."""
    given = read(list(as_bytes(text)))
    if given[0] == 0:
        return bytes(given[1:]).decode("ascii")
    return given[0], given[1], bytes(given[2:]).decode("ascii")


def speech(text):
    """What is said of the text as a str, or an error as (number, place, word)."""
    given = said(list(as_bytes(text)))
    if given[0] == 0:
        return bytes(given[1:]).decode("utf-8")
    return given[0], given[1], bytes(given[2:]).decode("ascii")


def listed(text):
    """The tokens as pairs of a place and a sort, or an error as (number, place)."""
    given = tokens(list(as_bytes(text)))
    if given[0] == 0:
        return list(zip(given[1::2], given[2::2], strict=True))
    return tuple(given)


def depth_of(tree):
    """How deep a written tree is."""
    deepest = 1
    depth = 0
    for at, sign in enumerate(tree):
        if sign == "(":
            depth += 1
            deepest = max(deepest, depth if tree[at + 1] == ")" else depth + 1)
        elif sign == ")":
            depth -= 1
    return deepest


def hexed(name):
    """A text as trees are written with it."""
    return "'" + as_bytes(name).hex()


def asked(*items, distinct=0, sources="", where="147()", groups="", having="147()"):
    """The tree of what begins with select."""
    return f"144({distinct} 145({' '.join(items)}) 146({sources}) {where} 148({groups}) {having})"


def plain(expression):
    """An item without a name."""
    return f"149({expression} ')"


def ask(expression):
    """The tree of the command that asks for one expression."""
    return f"160({asked(plain(expression))})"


def col(name):
    """A column without a table."""
    return f"129(' {hexed(name)})"


def num(number):
    """A whole number's value as an expression."""
    return f"128(18({number}))"


# The tree of the question: select 1.
ONE = asked(plain(num(1)))


def place_of(mark, text):
    """The text without the mark, and the place where the mark stood."""
    place = as_bytes(text[:text.index(mark)])
    return text.replace(mark, "", 1), len(place)


class Checks:
    """To be mixed into a TestCase."""

    def tree(self, text, tree):
        with self.subTest(text=text):
            self.assertEqual(answer(text), tree)
            self.has_tokens(text)
            self.same_again(speech(text), tree)

    def same_again(self, again, tree):
        """What is said of this tree is read as the same tree, and said again as itself."""
        self.assertIsInstance(again, str)
        if depth_of(tree) <= DEEPEST_AGAIN and len(as_bytes(again)) <= MOST_BYTES:
            self.assertEqual(answer(again), tree)
            self.assertEqual(speech(again), again)

    def expr(self, text, tree):
        """What stands behind select has this tree."""
        self.tree("select " + text, ask(tree))

    def says(self, text, wanted):
        """Just this is said of the text."""
        with self.subTest(text=text):
            self.assertEqual(speech(text), wanted)
            self.same_again(wanted, answer(text))

    def says_expr(self, text, wanted):
        """Just this is said of what stands behind select."""
        self.says("select " + text, "select " + wanted)

    def wrong(self, text, number, word=""):
        """The error is told at the place where ^ stands in the text, and said as it is read."""
        clean, place = place_of("^", text)
        with self.subTest(text=text):
            self.assertEqual(answer(clean), (number, place, word))
            self.assertEqual(speech(clean), (number, place, word))
            if number == 1 or len(as_bytes(clean)) > MOST_BYTES:
                self.assertEqual(listed(clean), (number, place))
            else:
                self.has_tokens(clean)

    def has_tokens(self, text):
        """The text is all tokens, whatever else may be wrong with it; these are they."""
        found = tokens(list(as_bytes(text)))
        self.assertEqual(found[0], 0)
        self.assertEqual(found, tokens_as_told(as_bytes(text)))
