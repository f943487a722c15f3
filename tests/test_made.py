"""Texts made by chance, always the same ones, and what is wrong with them when they are cut or changed."""

import unittest

from answers import answer, as_bytes, depth_of
from maker import Maker


class Made(unittest.TestCase):
    def made(self, seed, count, most):
        maker = Maker(seed)
        found = []
        while len(found) < count:
            tokens, tree = maker.command(maker.chance.randint(0, 4))
            if len(tokens) <= most and depth_of(tree) <= 40:
                found.append((maker, tokens, tree))
        return found

    def test_each_text_has_its_tree(self):
        for maker, tokens, tree in self.made(1, 3000, 2000):
            text, places = maker.spread(tokens)
            self.assertEqual(answer(text), tree, text)

    def test_a_text_that_is_cut_is_right_up_to_its_end(self):
        """What stands before the cut is never what's wrong, for a way to go on is known."""
        for maker, tokens, tree in self.made(2, 250, 60):
            for count in range(len(tokens)):
                text, places = maker.spread(tokens[:count])
                found = answer(text)
                if not isinstance(found, str):
                    self.assertEqual(found[1], len(as_bytes(text)), text)

    def test_a_kept_word_where_none_may_stand_is_wrong_at_its_place(self):
        """The word set stands behind update's table alone: anywhere else it is the first that is wrong."""
        for maker, tokens, tree in self.made(3, 300, 60):
            if "update" in tokens:
                continue
            for at in range(len(tokens)):
                text, places = maker.spread(tokens[:at] + ["set"] + tokens[at:])
                found = answer(text)
                self.assertNotIsInstance(found, str, text)
                self.assertEqual(found[1], places[at], text)

    def test_what_follows_a_whole_text_is_wrong(self):
        for maker, tokens, tree in self.made(4, 500, 200):
            text, places = maker.spread(tokens + [")"])
            self.assertEqual(answer(text), (6, places[-1], ""), text)


if __name__ == "__main__":
    unittest.main()
