import unittest

from quirefold.desk import depth
from rows import GATHERINGS, LARGEST, NO_GATHERINGS, gatherings_to_try, pairs_of, row


class Depth(unittest.TestCase):
    def test_written_answers(self):
        for text, depths in [
            ("|", [0]),
            ("|||", [0, 0, 0]),
            ("()", [0, 0]),
            ("[)", [0, 0]),
            ("(]", [0, 0]),
            ("|()|", [0, 0, 0, 0]),
            ("(|)", [0, 1, 0]),
            ("[|)", [0, 1, 0]),
            ("(|]", [0, 1, 0]),
            ("()()", [0, 0, 0, 0]),
            ("(())", [0, 1, 1, 0]),
            ("([))", [0, 1, 1, 0]),
            ("((])", [0, 1, 1, 0]),
            ("[(])", [0, 1, 1, 0]),
            ("|(|[|)|)|", [0, 0, 1, 1, 2, 1, 1, 0, 0]),
            ("(()[|))|", [0, 1, 1, 1, 2, 1, 0, 0]),
            ("|" * 21, [0] * 21),
            ("(" * 10 + "|" + ")" * 10, list(range(11)) + list(range(9, -1, -1))),
            ("[" * 10 + "|" + ")" * 10, list(range(11)) + list(range(9, -1, -1))),
            ("(][)" * 5 + "|", [0] * 21),
        ]:
            for place, pairs in enumerate(depths):
                with self.subTest((place, text)):
                    self.assertEqual(depth(place, row(text)), [pairs])

    def test_each_place_by_the_words(self):
        for signs in gatherings_to_try():
            pairs = pairs_of(signs)
            for place in range(len(signs)):
                around = [pair for pair in pairs if pair[0] < place < pair[1]]
                self.assertEqual(depth(place, signs), [len(around)], (place, signs))

    def test_no_such_place(self):
        self.assertEqual(depth(0, []), [-2])
        for text, places in GATHERINGS:
            for place in (len(text), len(text) + 1, 21, 64, LARGEST):
                with self.subTest((place, text)):
                    self.assertEqual(depth(place, row(text)), [-2])

    def test_no_gathering_is_looked_at_first(self):
        for signs in NO_GATHERINGS:
            for place in list(range(len(signs) + 2)) + [LARGEST]:
                with self.subTest((place, signs)):
                    self.assertEqual(depth(place, signs), [-1])


if __name__ == "__main__":
    unittest.main()
