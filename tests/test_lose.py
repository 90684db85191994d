import unittest

from quirefold.desk import is_one, lose
from rows import GATHERINGS, LARGEST, NO_GATHERINGS, gatherings_to_try, partner_of, row


def lost_by_the_words(place, signs):
    partner = partner_of(place, signs)
    left = dict(enumerate(signs))
    del left[place]
    if partner is not None and signs[partner] in (2, 3):
        left[partner] = 1
    elif partner is not None:
        del left[partner]
    return [left[kept] for kept in sorted(left)]


class Lose(unittest.TestCase):
    def test_written_answers(self):
        for place, text, left in [
            # A leaf alone.
            (0, "|", ""),
            (0, "||", "|"),
            (0, "|()", "()"),
            (1, "(|)", "()"),
            (2, "[)|", "[)"),
            (2, "()|(]", "()(]"),
            (10, "(" * 10 + "|" + ")" * 10, "(" * 10 + ")" * 10),
            (20, "(][)" * 5 + "|", "(][)" * 5),
            # The first and the second leaf of a pair of leaves.
            (0, "()", "|"),
            (1, "()", "|"),
            (0, "(|)", "||"),
            (2, "(|)", "||"),
            (0, "([))", "[)|"),
            (3, "([))", "|[)"),
            (1, "|((])|", "|(]||"),
            (4, "|((])|", "||(]|"),
            (1, "(())", "(|)"),
            (2, "(())", "(|)"),
            (1, "[())", "[|)"),
            (2, "(()]", "(|]"),
            (0, "(" * 10 + "|" + ")" * 10, "(" * 9 + "|" + ")" * 9 + "|"),
            (20, "(" * 10 + "|" + ")" * 10, "|" + "(" * 9 + "|" + ")" * 9),
            # A leaf whose partner is a stub before it.
            (1, "[)", ""),
            (2, "[|)", "|"),
            (3, "[(])", "(]"),
            (4, "|[||)|", "||||"),
            (2, "([))", "()"),
            (3, "(][)", "(]"),
            (11, "[" * 10 + "|" + ")" * 10, "[" * 9 + "|" + ")" * 9),
            (20, "[" * 10 + "|" + ")" * 10, "[" * 9 + "|" + ")" * 9),
            # A leaf whose partner is a stub behind it.
            (0, "(]", ""),
            (0, "(|]", "|"),
            (0, "([)]", "[)"),
            (1, "|(||]|", "||||"),
            (1, "((])", "()"),
            (0, "(][)", "[)"),
            (0, "(" * 10 + "|" + "]" * 10, "(" * 9 + "|" + "]" * 9),
            (9, "(" * 10 + "|" + "]" * 10, "(" * 9 + "|" + "]" * 9),
        ]:
            with self.subTest((place, text)):
                self.assertEqual(lose(place, row(text)), [len(left)] + row(left))

    def test_the_last_leaf_leaves_how_many_alone(self):
        self.assertEqual(lose(0, [1]), [0])
        self.assertEqual(lose(1, [4, 3]), [0])
        self.assertEqual(lose(0, [2, 5]), [0])

    def test_each_leaf_by_the_words(self):
        for signs in gatherings_to_try():
            for place in [place for place, sign in enumerate(signs) if sign in (1, 2, 3)]:
                left = lost_by_the_words(place, signs)
                self.assertEqual(lose(place, signs), [len(left)] + left, (place, signs))

    def test_leaves_a_gathering(self):
        for signs in gatherings_to_try():
            for place in [place for place, sign in enumerate(signs) if sign in (1, 2, 3)]:
                answer = lose(place, signs)
                self.assertEqual(answer[0], len(answer) - 1)
                self.assertEqual(is_one(answer[1:]), [1], (place, signs))

    def test_a_stub_stands_there(self):
        for signs in gatherings_to_try():
            for place in [place for place, sign in enumerate(signs) if sign in (4, 5)]:
                self.assertEqual(lose(place, signs), [-2], (place, signs))

    def test_no_such_place(self):
        self.assertEqual(lose(0, []), [-2])
        for text, places in GATHERINGS:
            for place in (len(text), len(text) + 1, 21, 64, LARGEST):
                with self.subTest((place, text)):
                    self.assertEqual(lose(place, row(text)), [-2])

    def test_no_gathering_is_looked_at_first(self):
        for signs in NO_GATHERINGS:
            for place in list(range(len(signs) + 2)) + [LARGEST]:
                with self.subTest((place, signs)):
                    self.assertEqual(lose(place, signs), [-1])


if __name__ == "__main__":
    unittest.main()
