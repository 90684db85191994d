import unittest

from quirefold.desk import cut, is_one, lose, mend
from rows import GATHERINGS, LARGEST, NO_GATHERINGS, gatherings_to_try, partner_of, row


def leaves_with_a_leaf_for_a_partner(signs):
    for place, sign in enumerate(signs):
        if sign in (2, 3) and signs[partner_of(place, signs)] in (2, 3):
            yield place


class Cut(unittest.TestCase):
    def test_written_answers(self):
        for place, text, left in [
            # A leaf alone.
            (0, "|", ""),
            (0, "|()", "()"),
            (1, "(|)", "()"),
            (2, "()|(]", "()(]"),
            (20, "(][)" * 5 + "|", "(][)" * 5),
            # The first and the second leaf of a pair of leaves.
            (0, "()", "[)"),
            (1, "()", "(]"),
            (0, "(|)", "[|)"),
            (2, "(|)", "(|]"),
            (0, "([))", "[[))"),
            (3, "([))", "([)]"),
            (1, "|((])|", "|[(])|"),
            (4, "|((])|", "|((]]|"),
            (1, "(())", "([))"),
            (2, "(())", "((])"),
            (1, "[())", "[[))"),
            (2, "[())", "[(])"),
            (0, "(" * 10 + "|" + ")" * 10, "[" + "(" * 9 + "|" + ")" * 10),
            (20, "(" * 10 + "|" + ")" * 10, "(" * 10 + "|" + ")" * 9 + "]"),
            # A leaf whose partner is a stub before it.
            (1, "[)", ""),
            (2, "[|)", "|"),
            (3, "[(])", "(]"),
            (2, "([))", "()"),
            (4, "|[||)|", "||||"),
            (20, "[" * 10 + "|" + ")" * 10, "[" * 9 + "|" + ")" * 9),
            # A leaf whose partner is a stub behind it.
            (0, "(]", ""),
            (0, "(|]", "|"),
            (0, "([)]", "[)"),
            (1, "((])", "()"),
            (1, "|(||]|", "||||"),
            (0, "(" * 10 + "|" + "]" * 10, "(" * 9 + "|" + "]" * 9),
        ]:
            with self.subTest((place, text)):
                self.assertEqual(cut(place, row(text)), [len(left)] + row(left))

    def test_a_stub_is_left_of_a_pair_of_leaves(self):
        for signs in gatherings_to_try():
            for place in leaves_with_a_leaf_for_a_partner(signs):
                left = list(signs)
                left[place] = 4 if signs[place] == 2 else 5
                self.assertEqual(cut(place, signs), [len(signs)] + left, (place, signs))

    def test_any_other_leaf_is_lost(self):
        for signs in gatherings_to_try():
            to_be_lost = {place for place, sign in enumerate(signs) if sign in (1, 2, 3)}
            for place in to_be_lost - set(leaves_with_a_leaf_for_a_partner(signs)):
                self.assertEqual(cut(place, signs), lose(place, signs), (place, signs))

    def test_leaves_a_gathering(self):
        for signs in gatherings_to_try():
            for place in [place for place, sign in enumerate(signs) if sign in (1, 2, 3)]:
                answer = cut(place, signs)
                self.assertEqual(answer[0], len(answer) - 1)
                self.assertEqual(is_one(answer[1:]), [1], (place, signs))

    def test_cut_and_mended_again_it_is_as_it_was(self):
        for signs in gatherings_to_try():
            for place in leaves_with_a_leaf_for_a_partner(signs):
                self.assertEqual(mend(place, cut(place, signs)[1:]), [len(signs)] + signs, (place, signs))

    def test_a_stub_stands_there(self):
        for signs in gatherings_to_try():
            for place in [place for place, sign in enumerate(signs) if sign in (4, 5)]:
                self.assertEqual(cut(place, signs), [-2], (place, signs))

    def test_no_such_place(self):
        self.assertEqual(cut(0, []), [-2])
        for text, places in GATHERINGS:
            for place in (len(text), len(text) + 1, 21, 64, LARGEST):
                with self.subTest((place, text)):
                    self.assertEqual(cut(place, row(text)), [-2])

    def test_no_gathering_is_looked_at_first(self):
        for signs in NO_GATHERINGS:
            for place in list(range(len(signs) + 2)) + [LARGEST]:
                with self.subTest((place, signs)):
                    self.assertEqual(cut(place, signs), [-1])


if __name__ == "__main__":
    unittest.main()
