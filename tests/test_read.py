import itertools
import unittest

from quirefold.desk import print_of, read
from rows import GATHERINGS, NO_TEXTS, bytes_of, paired, row


class Read(unittest.TestCase):
    def test_written_answers(self):
        self.assertEqual(read([]), [0])
        self.assertEqual(read([0x7C]), [1, 1])
        self.assertEqual(read([0x28, 0x29]), [2, 2, 3])
        self.assertEqual(read([0x5B, 0x29]), [2, 4, 3])
        self.assertEqual(read([0x28, 0x5D]), [2, 2, 5])
        self.assertEqual(read([0x28, 0x5D, 0x7C, 0x5B, 0x29]), [5, 2, 5, 1, 4, 3])
        self.assertEqual(read([0x7C] * 21), [21] + [1] * 21)

    def test_texts_of_gatherings(self):
        for text, places in GATHERINGS:
            with self.subTest(text):
                self.assertEqual(read(bytes_of(text)), [len(text)] + row(text))

    def test_no_texts(self):
        for text in NO_TEXTS:
            with self.subTest(text):
                self.assertEqual(read(text), [-2])

    def test_each_byte(self):
        for byte in range(256):
            with self.subTest(byte):
                self.assertEqual(read([byte]), [1, 1] if byte == 0x7C else [-2])
                self.assertEqual(read([0x28, byte, 0x29]), [3, 2, 1, 3] if byte == 0x7C else [-2])
                self.assertEqual(read([byte, 0x29])[0], 2 if byte in (0x28, 0x5B) else -2)
                self.assertEqual(read([0x28, byte])[0], 2 if byte in (0x29, 0x5D) else -2)

    def test_all_short_texts(self):
        known = {}
        for length in range(7):
            for marks in itertools.product("|()[]", repeat=length):
                signs = row(marks)
                expected = [length] + signs if paired(tuple(signs), known) else [-2]
                answer = read(bytes_of("".join(marks)))
                self.assertEqual(answer, expected, marks)
                if answer != [-2]:
                    self.assertEqual(print_of(answer[1:]), [length] + bytes_of("".join(marks)))

    def test_number_of_bytes(self):
        for length in range(65):
            with self.subTest(length):
                self.assertEqual(read(bytes_of("|" * length)), [length] + [1] * length if length <= 21 else [-2])


if __name__ == "__main__":
    unittest.main()
