import itertools
import unittest

from quirefold.desk import mate
from rows import GATHERINGS, LARGEST, NO_GATHERINGS, gatherings_to_try, pairs_of, row


class Mate(unittest.TestCase):
    def test_written_answers(self):
        for text, partners in [
            ("|", [0]),
            ("|||", [0, 1, 2]),
            ("()", [1, 0]),
            ("[)", [1, 0]),
            ("(]", [1, 0]),
            ("(|]", [2, 1, 0]),
            ("[|)", [2, 1, 0]),
            ("()()", [1, 0, 3, 2]),
            ("(())", [3, 2, 1, 0]),
            ("([))", [3, 2, 1, 0]),
            ("[(])", [3, 2, 1, 0]),
            ("(][)", [1, 0, 3, 2]),
            ("|[|)|", [0, 3, 2, 1, 4]),
            ("(()[|))|", [6, 2, 1, 5, 4, 3, 0, 7]),
            ("(" * 10 + "|" + ")" * 10, list(range(20, -1, -1))),
            ("[" * 10 + "|" + ")" * 10, list(range(20, -1, -1))),
            ("(][)" * 5 + "|", [1, 0, 3, 2, 5, 4, 7, 6, 9, 8, 11, 10, 13, 12, 15, 14, 17, 16, 19, 18, 20]),
        ]:
            for place, partner in enumerate(partners):
                with self.subTest((place, text)):
                    self.assertEqual(mate(place, row(text)), [partner])

    def test_each_place_by_the_words(self):
        for signs in gatherings_to_try():
            expected = list(range(len(signs)))
            for first, second in pairs_of(signs):
                expected[first] = second
                expected[second] = first
            self.assertEqual([mate(place, signs) for place in range(len(signs))], [[place] for place in expected])

    def test_partners_are_each_others(self):
        for signs in gatherings_to_try():
            for place in range(len(signs)):
                partner = mate(place, signs)[0]
                self.assertEqual(mate(partner, signs), [place])
                self.assertEqual(partner == place, signs[place] == 1)

    def test_pairs_never_cross(self):
        for signs in gatherings_to_try():
            pairs = {tuple(sorted((place, mate(place, signs)[0]))) for place in range(len(signs))}
            for one, other in itertools.permutations(pairs, 2):
                self.assertFalse(one[0] < other[0] < one[1] < other[1], (signs, one, other))

    def test_no_such_place(self):
        self.assertEqual(mate(0, []), [-2])
        for text, places in GATHERINGS:
            for place in (len(text), len(text) + 1, 21, 64, LARGEST):
                with self.subTest((place, text)):
                    self.assertEqual(mate(place, row(text)), [-2])

    def test_no_gathering_is_looked_at_first(self):
        for signs in NO_GATHERINGS:
            for place in list(range(len(signs) + 2)) + [LARGEST]:
                with self.subTest((place, signs)):
                    self.assertEqual(mate(place, signs), [-1])


if __name__ == "__main__":
    unittest.main()
