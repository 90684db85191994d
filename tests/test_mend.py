import unittest

from quirefold.desk import cut, is_one, mend
from rows import GATHERINGS, LARGEST, NO_GATHERINGS, gatherings_to_try, row


class Mend(unittest.TestCase):
    def test_written_answers(self):
        for place, text, mended in [
            # A stub before its partner.
            (0, "[)", "()"),
            (0, "[|)", "(|)"),
            (1, "|[|)|", "|(|)|"),
            (0, "[[))", "([))"),
            (1, "[[))", "[())"),
            (0, "[(])", "((])"),
            (2, "(][)", "(]()"),
            (0, "[" * 10 + "|" + ")" * 10, "(" + "[" * 9 + "|" + ")" * 10),
            # A stub behind its partner.
            (1, "(]", "()"),
            (2, "(|]", "(|)"),
            (3, "|(|]|", "|(|)|"),
            (2, "((]]", "(()]"),
            (3, "((]]", "((])"),
            (2, "[(])", "[())"),
            (1, "(][)", "()[)"),
            (20, "(" * 10 + "|" + "]" * 10, "(" * 10 + "|" + "]" * 9 + ")"),
        ]:
            with self.subTest((place, text)):
                self.assertEqual(mend(place, row(text)), [len(text)] + row(mended))

    def test_each_stub_becomes_a_leaf(self):
        for signs in gatherings_to_try():
            for place in [place for place, sign in enumerate(signs) if sign in (4, 5)]:
                mended = list(signs)
                mended[place] = 2 if signs[place] == 4 else 3
                self.assertEqual(mend(place, signs), [len(signs)] + mended, (place, signs))
                self.assertEqual(is_one(mended), [1], (place, signs))

    def test_mended_and_cut_again_it_is_as_it_was(self):
        for signs in gatherings_to_try():
            for place in [place for place, sign in enumerate(signs) if sign in (4, 5)]:
                self.assertEqual(cut(place, mend(place, signs)[1:]), [len(signs)] + signs, (place, signs))

    def test_a_leaf_stands_there(self):
        for signs in gatherings_to_try():
            for place in [place for place, sign in enumerate(signs) if sign in (1, 2, 3)]:
                self.assertEqual(mend(place, signs), [-2], (place, signs))

    def test_no_such_place(self):
        self.assertEqual(mend(0, []), [-2])
        for text, places in GATHERINGS:
            for place in (len(text), len(text) + 1, 21, 64, LARGEST):
                with self.subTest((place, text)):
                    self.assertEqual(mend(place, row(text)), [-2])

    def test_no_gathering_is_looked_at_first(self):
        for signs in NO_GATHERINGS:
            for place in list(range(len(signs) + 2)) + [LARGEST]:
                with self.subTest((place, signs)):
                    self.assertEqual(mend(place, signs), [-1])


if __name__ == "__main__":
    unittest.main()
