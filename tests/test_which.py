import unittest

from quirefold.desk import leaf, which
from rows import GATHERINGS, LARGEST, NO_GATHERINGS, row


class Which(unittest.TestCase):
    def test_each_place(self):
        for text, places in GATHERINGS:
            for place in range(len(text)):
                with self.subTest((place, text)):
                    expected = places.index(place) if place in places else -3
                    self.assertEqual(which(place, row(text)), [expected])

    def test_written_answers(self):
        self.assertEqual(which(0, [1]), [0])
        self.assertEqual(which(0, [4, 1, 3]), [-3])
        self.assertEqual(which(1, [4, 1, 3]), [0])
        self.assertEqual(which(2, [4, 1, 3]), [1])
        self.assertEqual(which(1, [2, 5, 4, 3]), [-3])
        self.assertEqual(which(2, [2, 5, 4, 3]), [-3])
        self.assertEqual(which(3, [2, 5, 4, 3]), [1])
        self.assertEqual(which(20, [1] * 21), [20])

    def test_no_such_place(self):
        for text, places in GATHERINGS:
            for place in (len(text), len(text) + 1, 64, LARGEST):
                with self.subTest((place, text)):
                    self.assertEqual(which(place, row(text)), [-2])

    def test_no_gathering_is_looked_at_first(self):
        for signs in NO_GATHERINGS:
            for place in list(range(len(signs) + 1)) + [LARGEST]:
                with self.subTest((place, signs)):
                    self.assertEqual(which(place, signs), [-1])

    def test_undoes_leaf(self):
        for text, places in GATHERINGS:
            for number in range(len(places)):
                with self.subTest((number, text)):
                    place = leaf(number, row(text))[0]
                    self.assertEqual(which(place, row(text)), [number])


if __name__ == "__main__":
    unittest.main()
