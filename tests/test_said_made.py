"""What is said of texts made by chance, always the same ones."""

import re
import unittest

from answers import MOST_BYTES, DEEPEST_AGAIN, answer, as_bytes, depth_of, speech
from maker import Maker

TOKEN = re.compile(r"""x'[0-9a-f]*'|'(?:[^']|'')*'|"(?:[^"]|"")+"|\$[1-9][0-9]?|[0-9]+(?:e-?[0-9]+|\.[0-9]+)?"""
                   r"""|[a-z]+|<>|<=|>=|\|\||[(),.*+\-/%=<>]""", re.DOTALL)
# Words that have their bracket directly behind them.
WITH_BRACKET = ("cast", "exact", "text", "bytes")
# Every word that may be said: all others are names, and stand in quotes.
WORDS = """
    all analyze and as begin bytes cascade case cast check checkpoint commit create day default delete desc distinct
    drop else end exact except execute exists explain false foreign found from full grant group having in index insert
    into intersect is join key left like limit moment not null offset on or order over partition password prepare
    primary real references revoke rollback savepoint select set strict table text then to true truth union unique
    update user values view when where whole with by
""".split()


def made(seed, count, most, sizes=(0, 1, 2, 3, 4)):
    """So many texts with their trees, none of more than so many tokens."""
    maker = Maker(seed)
    found = []
    while len(found) < count:
        tokens, tree = maker.command(maker.one_of(sizes))
        if len(tokens) <= most and depth_of(tree) <= 40:
            found.append((maker, tokens, tree))
    return found


def cut(said):
    """The tokens of what is said, each with the blanks before it."""
    found, place = [], 0
    while place < len(said):
        begin = place
        while said[place] == " ":
            place += 1
        token = TOKEN.match(said, place)
        found.append((said[begin:place], token.group()))
        place = token.end()
    return found


def pairs(tokens):
    """The places of each bracket and of the one that ends it."""
    opened, found = [], []
    for at, (before, token) in enumerate(tokens):
        if token == "(":
            opened.append(at)
        elif token == ")":
            found.append((opened.pop(), at))
    return found


class Made(unittest.TestCase):
    def test_what_is_said_is_read_as_the_same_tree(self):
        deep = 0
        for sizes, count in (((0, 1, 2, 3, 4), 3000), ((5, 6, 7), 500)):
            for maker, tokens, tree in made(21, count, 1500, sizes):
                text, places = maker.spread(tokens)
                said = speech(text)
                self.assertIsInstance(said, str, text)
                if depth_of(tree) <= DEEPEST_AGAIN and len(as_bytes(said)) <= MOST_BYTES:
                    deep += depth_of(tree) > 15
                    self.assertEqual(answer(said), tree, text)
                    self.assertEqual(speech(said), said, text)
        self.assertGreater(deep, 200)

    def test_blanks_and_remarks_of_the_text_do_not_matter(self):
        for maker, tokens, tree in made(22, 500, 300):
            wanted = speech(" ".join(tokens))
            for turn in range(2):
                text, places = maker.spread(tokens)
                self.assertEqual(speech(text), wanted, text)

    def test_blanks_stand_where_they_are_shown(self):
        for maker, tokens, tree in made(23, 2000, 300):
            said = speech(" ".join(tokens))
            last = None
            for at, (blanks, token) in enumerate(cut(said)):
                self.assertEqual(blanks, self.blanks_between(blanks, last, token) if last else "", said)
                last = token

    def blanks_between(self, blanks, last, token):
        """The blanks that must stand between two tokens; those that there are if a name may be a call's or not."""
        if last == "(":
            return " " if token == "order" else ""
        if token in (")", ",", ".") or last == ".":
            return ""
        if token == "(" and last in WITH_BRACKET:
            return ""
        if token == "(" and last.startswith('"') and blanks == "":
            return ""
        return " "

    def test_words_are_said_in_small_letters_and_names_in_quotes(self):
        for maker, tokens, tree in made(24, 2000, 300):
            for blanks, token in cut(speech(" ".join(tokens))):
                if token[0].isalpha() and not token.startswith("x'"):
                    self.assertIn(token, WORDS)

    def test_each_pair_of_brackets_is_needed(self):
        """Without one of them the text is wrong, or has another tree."""
        for maker, tokens, tree in made(25, 1200, 70):
            said = cut(speech(" ".join(tokens)))
            for begin, end in pairs(said):
                without = [blanks + (" " if at in (begin, end) else token) for at, (blanks, token) in enumerate(said)]
                self.assertNotEqual(answer("".join(without)), tree, "".join(without))

    def test_a_text_that_is_cut_or_changed_is_told_as_read_tells_it(self):
        for maker, tokens, tree in made(26, 150, 60):
            for at in range(len(tokens)):
                for changed in (tokens[:at], tokens[:at] + ["set"] + tokens[at:], tokens[:at] + tokens[at + 1:]):
                    text = " ".join(changed)
                    found = answer(text)
                    if not isinstance(found, str):
                        self.assertEqual(speech(text), found, text)


if __name__ == "__main__":
    unittest.main()
