import unittest

from quirefold.desk import leaf
from rows import GATHERINGS, LARGEST, NO_GATHERINGS, row


class Leaf(unittest.TestCase):
    def test_place_of_each_leaf(self):
        for text, places in GATHERINGS:
            for number, place in enumerate(places):
                with self.subTest((number, text)):
                    self.assertEqual(leaf(number, row(text)), [place])

    def test_written_answers(self):
        self.assertEqual(leaf(0, [1]), [0])
        self.assertEqual(leaf(0, [4, 1, 3]), [1])
        self.assertEqual(leaf(1, [4, 1, 3]), [2])
        self.assertEqual(leaf(1, [2, 5, 4, 3]), [3])
        self.assertEqual(leaf(20, [1] * 21), [20])

    def test_no_such_leaf(self):
        for text, places in GATHERINGS:
            for number in (len(places), len(places) + 1, 64, LARGEST):
                with self.subTest((number, text)):
                    self.assertEqual(leaf(number, row(text)), [-2])

    def test_leaves_are_fewer_than_places(self):
        self.assertEqual(leaf(1, [4, 3]), [-2])
        self.assertEqual(leaf(1, [2, 5]), [-2])

    def test_no_gathering_is_looked_at_first(self):
        for signs in NO_GATHERINGS:
            for number in (0, len(signs) - 1, len(signs), LARGEST):
                with self.subTest((number, signs)):
                    self.assertEqual(leaf(number, signs), [-1])


if __name__ == "__main__":
    unittest.main()
