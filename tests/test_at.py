import unittest

from quirefold.desk import at, count, is_one, rank
from rows import GATHERINGS, LARGEST, LARGEST_NUMBER_OF_ALL, gatherings_of, row


def last_of(places):
    return [4] * (places // 2) + [3] * (places // 2) + [1] * (places % 2)


class At(unittest.TestCase):
    def test_written_answers(self):
        for number, text in [
            (0, ""),
            (0, "|"),
            (0, "||"), (1, "()"), (2, "(]"), (3, "[)"),
            (0, "|||"), (1, "|()"), (2, "|(]"), (3, "|[)"), (4, "(|)"), (5, "(|]"), (6, "()|"), (7, "(]|"),
            (8, "[|)"), (9, "[)|"),
            (35, "[)[)"), (36, "[[))"),
            (115152607830, "[" * 10 + ")" * 10),
            (1, "|" * 19 + "()"), (2, "|" * 19 + "(]"), (3, "|" * 19 + "[)"), (4, "|" * 18 + "(|)"),
            (115152607830, "|" + "[" * 10 + ")" * 10),
            (480244735160, "[" * 10 + "|" + ")" * 10),
            (480244735169, "[" * 10 + ")" * 9 + "|)"),
            (480244735170, "[" * 10 + ")" * 10 + "|"),
        ]:
            with self.subTest((number, text)):
                self.assertEqual(at(len(text), number), [len(text)] + row(text))

    def test_all_of_few_places_in_order(self):
        for places in range(8):
            for number, signs in enumerate(gatherings_of(places)):
                answer = at(places, number)
                self.assertEqual(answer, [places] + signs, (places, number))
                self.assertEqual(rank(answer[1:]), [number])

    def test_first_last_and_the_one_behind_the_last(self):
        for places in range(22):
            many = count(places)[0]
            with self.subTest(places):
                self.assertEqual(at(places, 0), [places] + [1] * places)
                self.assertEqual(at(places, many - 1), [places] + last_of(places))
                self.assertEqual(at(places, many), [-2])
                self.assertEqual(at(places, many + 1), [-2])

    def test_ends_written_out(self):
        self.assertEqual(at(0, 0), [0])
        self.assertEqual(at(0, 1), [-2])
        self.assertEqual(at(1, 0), [1, 1])
        self.assertEqual(at(1, 1), [-2])
        self.assertEqual(at(20, 115152607831), [-2])
        self.assertEqual(at(21, 480244735171), [-2])

    def test_there_is_none(self):
        for places in list(range(22)):
            self.assertEqual(at(places, LARGEST_NUMBER_OF_ALL), [-2])
        for places in (22, 23, 64, LARGEST):
            for number in (0, 1, LARGEST, LARGEST_NUMBER_OF_ALL):
                with self.subTest((places, number)):
                    self.assertEqual(at(places, number), [-2])

    def test_rank_gives_the_number_back(self):
        for places in (19, 20, 21):
            many = count(places)[0]
            for number in range(0, many, many // 200):
                answer = at(places, number)
                self.assertEqual(answer[0], places)
                self.assertEqual(is_one(answer[1:]), [1], (places, number))
                self.assertEqual(rank(answer[1:]), [number])

    def test_gives_what_was_ranked(self):
        for text, places in GATHERINGS:
            with self.subTest(text):
                self.assertEqual(at(len(text), rank(row(text))[0]), [len(text)] + row(text))


if __name__ == "__main__":
    unittest.main()
