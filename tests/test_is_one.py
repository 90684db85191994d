import itertools
import unittest

from quirefold.desk import is_one
from rows import GATHERINGS, LARGEST, NO_GATHERINGS, paired, row


class Ordinary(unittest.TestCase):
    def test_gatherings(self):
        for text, places in GATHERINGS:
            with self.subTest(text):
                self.assertEqual(is_one(row(text)), [1])

    def test_no_gatherings(self):
        for signs in NO_GATHERINGS:
            with self.subTest(signs):
                self.assertEqual(is_one(signs), [0])

    def test_number_of_places(self):
        for places in range(65):
            with self.subTest(places):
                self.assertEqual(is_one([1] * places), [1 if places <= 21 else 0])

    def test_each_two_partners(self):
        for first, second in itertools.product(range(7), repeat=2):
            with self.subTest((first, second)):
                whole = (first, second) in [(1, 1), (2, 3), (2, 5), (4, 3)]
                self.assertEqual(is_one([first, second]), [1 if whole else 0])


class AllShortRows(unittest.TestCase):
    def test_rows_of_up_to_five_numbers(self):
        self.compare(range(7), range(6))

    def test_rows_of_six_to_eight_signs(self):
        self.compare(range(1, 6), range(6, 9))

    def compare(self, numbers, lengths):
        known = {}
        for length in lengths:
            for signs in itertools.product(numbers, repeat=length):
                if is_one(list(signs)) != [1 if paired(signs, known) else 0]:
                    self.fail(f"{signs}")


class LongRowsChanged(unittest.TestCase):
    def test_one_number_changed_anywhere(self):
        known = {}
        for text, places in GATHERINGS:
            for place in range(len(text)):
                for number in (0, 1, 2, 3, 4, 5, 6, LARGEST):
                    signs = row(text)
                    signs[place] = number
                    with self.subTest(signs):
                        self.assertEqual(is_one(signs), [1 if paired(tuple(signs), known) else 0])


if __name__ == "__main__":
    unittest.main()
