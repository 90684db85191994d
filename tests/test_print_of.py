import unittest

from quirefold.desk import print_of, read
from rows import GATHERINGS, NO_GATHERINGS, bytes_of, gatherings_to_try, row


class PrintOf(unittest.TestCase):
    def test_written_answers(self):
        self.assertEqual(print_of([]), [0])
        self.assertEqual(print_of([1]), [1, 0x7C])
        self.assertEqual(print_of([2, 3]), [2, 0x28, 0x29])
        self.assertEqual(print_of([4, 3]), [2, 0x5B, 0x29])
        self.assertEqual(print_of([2, 5]), [2, 0x28, 0x5D])
        self.assertEqual(print_of([2, 5, 1, 4, 3]), [5, 0x28, 0x5D, 0x7C, 0x5B, 0x29])
        self.assertEqual(print_of([1] * 21), [21] + [0x7C] * 21)

    def test_texts_of_gatherings(self):
        for text, places in GATHERINGS:
            with self.subTest(text):
                self.assertEqual(print_of(row(text)), [len(text)] + bytes_of(text))

    def test_read_gives_it_back(self):
        for signs in gatherings_to_try():
            self.assertEqual(read(print_of(signs)[1:]), [len(signs)] + signs)

    def test_no_gathering(self):
        for signs in NO_GATHERINGS:
            with self.subTest(signs):
                self.assertEqual(print_of(signs), [-1])


if __name__ == "__main__":
    unittest.main()
