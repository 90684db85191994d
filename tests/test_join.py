import unittest

from quirefold.desk import is_one, join, lose
from rows import GATHERINGS, LARGEST, NO_GATHERINGS, gatherings_to_try, paired, row


def joins():
    """Each gathering, and each two leaves alone in it that may be joined by the document's words."""
    known = {}
    for signs in gatherings_to_try():
        for first in range(len(signs)):
            for second in range(first + 1, len(signs)):
                if signs[first] == 1 and signs[second] == 1 and paired(tuple(signs[first + 1:second]), known):
                    yield first, second, signs


class Join(unittest.TestCase):
    def test_written_answers(self):
        for first, second, text, joined in [
            # Neighbours.
            (0, 1, "||", "()"),
            (0, 1, "|||", "()|"),
            (1, 2, "|||", "|()"),
            (1, 2, "(||)", "(())"),
            (1, 2, "[||)", "[())"),
            (1, 2, "(||]", "(()]"),
            # With leaves alone and pairs between.
            (0, 2, "|||", "(|)"),
            (0, 3, "|()|", "(())"),
            (0, 3, "|[)|", "([))"),
            (0, 3, "|(]|", "((])"),
            (0, 5, "|(][)|", "((][))"),
            (1, 5, "||[|)|", "|([|))"),
            (1, 4, "(|()|)", "((()))"),
            (0, 4, "|(|)|", "((|))"),
            (1, 7, "(|[)|()||]", "(([)|())|]"),
            # 21 places.
            (0, 20, "|" * 21, "(" + "|" * 19 + ")"),
            (0, 20, "|" + "[)" * 9 + "||", "(" + "[)" * 9 + "|)"),
            (19, 20, "|" * 21, "|" * 19 + "()"),
        ]:
            with self.subTest((first, second, text)):
                self.assertEqual(join(first, second, row(text)), [len(text)] + row(joined))

    def test_not_paired_between(self):
        for first, second, text in [
            (0, 2, "|(|)"), (1, 3, "(|)|"), (0, 2, "|[|)"), (1, 3, "(|]|"), (1, 4, "(|)(|)"), (1, 4, "(|][|)"),
            (0, 3, "|((|))"), (2, 5, "((|))|"), (0, 4, "|()(|)"), (1, 5, "(|)()|"),
            (0, 18, "|(" + "|" * 17 + ")|"), (2, 20, "|(" + "|" * 17 + ")|"),
        ]:
            with self.subTest((first, second, text)):
                self.assertEqual(join(first, second, row(text)), [-2])

    def test_no_two_leaves_alone(self):
        for first, second, text in [
            (0, 1, "()"), (0, 1, "[)"), (0, 1, "(]"), (0, 1, "|()"), (0, 2, "|()"), (1, 2, "()|"), (0, 2, "()|"),
            (0, 3, "(())"), (1, 2, "(())"), (0, 1, "|[)"), (0, 2, "|[)"), (1, 2, "(]|"), (0, 2, "(|)"), (0, 1, "(|)"),
            (1, 2, "(|)"), (1, 2, "()()"), (0, 3, "|()()"),
        ]:
            with self.subTest((first, second, text)):
                self.assertEqual(join(first, second, row(text)), [-2])

    def test_first_not_below_second(self):
        for first, second, text in [(0, 0, "|"), (1, 1, "||"), (1, 0, "||"), (2, 0, "|||"), (3, 0, "|()|"),
                                    (20, 0, "|" * 21), (20, 20, "|" * 21), (20, 19, "|" * 21)]:
            with self.subTest((first, second, text)):
                self.assertEqual(join(first, second, row(text)), [-2])

    def test_no_such_place(self):
        self.assertEqual(join(0, 0, []), [-2])
        self.assertEqual(join(0, 1, []), [-2])
        for text, places in GATHERINGS:
            for first in (0, len(text), len(text) + 1, LARGEST):
                for second in (len(text), len(text) + 1, 64, LARGEST):
                    with self.subTest((first, second, text)):
                        self.assertEqual(join(first, second, row(text)), [-2])
                        self.assertEqual(join(second, first, row(text)), [-2])

    def test_each_two_places_by_the_words(self):
        fitting = list(joins())
        for first, second, signs in fitting:
            joined = list(signs)
            joined[first] = 2
            joined[second] = 3
            self.assertEqual(join(first, second, signs), [len(signs)] + joined, (first, second, signs))
        known = {(first, second, tuple(signs)) for first, second, signs in fitting}
        for signs in gatherings_to_try():
            for first in range(len(signs) + 2):
                for second in range(len(signs) + 2):
                    if (first, second, tuple(signs)) not in known:
                        self.assertEqual(join(first, second, signs), [-2], (first, second, signs))

    def test_leaves_a_gathering(self):
        for first, second, signs in joins():
            answer = join(first, second, signs)
            self.assertEqual(answer[0], len(answer) - 1)
            self.assertEqual(is_one(answer[1:]), [1], (first, second, signs))

    def test_a_leaf_lost_again_leaves_the_other_alone(self):
        for first, second, signs in joins():
            joined = join(first, second, signs)[1:]
            self.assertEqual(lose(first, joined), [len(signs) - 1] + signs[:first] + signs[first + 1:])
            self.assertEqual(lose(second, joined), [len(signs) - 1] + signs[:second] + signs[second + 1:])

    def test_no_gathering_is_looked_at_first(self):
        for signs in NO_GATHERINGS:
            numbers = [0, 1, len(signs) - 1, len(signs), len(signs) + 1, LARGEST]
            for first in numbers:
                for second in numbers:
                    with self.subTest((first, second, signs)):
                        self.assertEqual(join(first, second, signs), [-1])


if __name__ == "__main__":
    unittest.main()
