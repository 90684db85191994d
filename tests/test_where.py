import unittest

from quirefold.desk import where
from rows import LARGEST, NO_GATHERINGS, gatherings_to_try, row

NO_SIGNS = (0, 6, 7, 21, 64, LARGEST)


class Where(unittest.TestCase):
    def test_written_answers(self):
        for text, answers in [
            ("", [[0], [0], [0], [0], [0]]),
            ("|", [[1, 0], [0], [0], [0], [0]]),
            ("()", [[0], [1, 0], [1, 1], [0], [0]]),
            ("[)", [[0], [0], [1, 1], [1, 0], [0]]),
            ("(]", [[0], [1, 0], [0], [0], [1, 1]]),
            ("|[|)|", [[3, 0, 2, 4], [0], [1, 3], [1, 1], [0]]),
            ("(][)", [[0], [1, 0], [1, 3], [1, 2], [1, 1]]),
            ("([(|]))(]|[)", [[2, 3, 9], [3, 0, 2, 7], [3, 5, 6, 11], [2, 1, 10], [2, 4, 8]]),
            ("|" * 21, [[21] + list(range(21)), [0], [0], [0], [0]]),
            ("[" * 10 + "|" + ")" * 10, [[1, 10], [0], [10] + list(range(11, 21)), [10] + list(range(10)), [0]]),
            ("(" * 10 + "|" + "]" * 10, [[1, 10], [10] + list(range(10)), [0], [0], [10] + list(range(11, 21))]),
        ]:
            for number, answer in enumerate(answers):
                with self.subTest((number + 1, text)):
                    self.assertEqual(where(number + 1, row(text)), answer)

    def test_each_sign_stands_just_where_told(self):
        for signs in gatherings_to_try():
            found = [0] * len(signs)
            for number in range(1, 6):
                answer = where(number, signs)
                self.assertEqual(answer[0], len(answer) - 1)
                self.assertEqual(answer[1:], sorted(set(answer[1:])))
                for place in answer[1:]:
                    found[place] = number
            self.assertEqual(found, signs)

    def test_a_number_that_is_no_sign(self):
        for signs in gatherings_to_try():
            for number in NO_SIGNS:
                self.assertEqual(where(number, signs), [0], (number, signs))

    def test_no_gathering(self):
        for signs in NO_GATHERINGS:
            for number in list(range(1, 6)) + list(NO_SIGNS):
                with self.subTest((number, signs)):
                    self.assertEqual(where(number, signs), [-1])


if __name__ == "__main__":
    unittest.main()
