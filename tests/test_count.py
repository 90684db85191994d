import unittest

from quirefold.desk import count
from rows import LARGEST, ends_well, gatherings_of

COUNTS = [
    1, 1, 4, 10, 37, 121, 451, 1639, 6259, 23923, 93502, 367852, 1465003, 5874103, 23740276, 96503554, 394542379,
    1620716251, 6687296308, 27700303510, 115152607831, 480244735171,
]


class Count(unittest.TestCase):
    def test_written_answers(self):
        for places, many in enumerate(COUNTS):
            with self.subTest(places):
                self.assertEqual(count(places), [many])

    def test_all_rows_of_few_places(self):
        for places in range(8):
            with self.subTest(places):
                self.assertEqual(count(places), [len(gatherings_of(places))])

    def test_each_follows_from_lesser_ones(self):
        # The first place holds a leaf alone, or one of three kinds of pairs with the rest within and behind it.
        for places in range(2, 22):
            pairs = sum(count(within)[0] * count(places - 2 - within)[0] for within in range(places - 1))
            with self.subTest(places):
                self.assertEqual(count(places), [count(places - 1)[0] + 3 * pairs])

    def test_place_by_place(self):
        known = {}
        for places in range(22):
            with self.subTest(places):
                self.assertEqual(count(places), [ends_well((), places, known)])

    def test_above_21(self):
        for places in (22, 23, 42, 64, LARGEST):
            with self.subTest(places):
                self.assertEqual(count(places), [-2])


if __name__ == "__main__":
    unittest.main()
