import unittest

from quirefold.desk import leaves
from rows import GATHERINGS, NO_GATHERINGS, row


class Leaves(unittest.TestCase):
    def test_how_many(self):
        for text, places in GATHERINGS:
            with self.subTest(text):
                self.assertEqual(leaves(row(text)), [len(places)])

    def test_written_answers(self):
        self.assertEqual(leaves([]), [0])
        self.assertEqual(leaves([1, 1]), [2])
        self.assertEqual(leaves([2, 1, 3]), [3])
        self.assertEqual(leaves([4, 1, 3]), [2])
        self.assertEqual(leaves([2, 1, 5]), [2])
        self.assertEqual(leaves([1] * 21), [21])

    def test_no_gathering(self):
        for signs in NO_GATHERINGS:
            with self.subTest(signs):
                self.assertEqual(leaves(signs), [-1])


if __name__ == "__main__":
    unittest.main()
