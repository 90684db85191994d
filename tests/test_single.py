import unittest

from quirefold.desk import is_one, lose, single
from rows import GATHERINGS, LARGEST, NO_GATHERINGS, gatherings_to_try, row


def with_room():
    return [signs for signs in gatherings_to_try() if len(signs) < 21]


class Single(unittest.TestCase):
    def test_written_answers(self):
        for place, text, fuller in [
            (0, "", "|"),
            (0, "()", "|()"),
            (1, "()", "(|)"),
            (2, "()", "()|"),
            (0, "[)", "|[)"),
            (1, "[)", "[|)"),
            (2, "[)", "[)|"),
            (1, "(]", "(|]"),
            (2, "([))", "([|))"),
            (3, "([))", "([)|)"),
            (2, "(][)", "(]|[)"),
            (4, "(][)", "(][)|"),
            (0, "(" * 10 + ")" * 10, "|" + "(" * 10 + ")" * 10),
            (10, "(" * 10 + ")" * 10, "(" * 10 + "|" + ")" * 10),
            (20, "(" * 10 + ")" * 10, "(" * 10 + ")" * 10 + "|"),
            (20, "|" * 20, "|" * 21),
        ]:
            with self.subTest((place, text)):
                self.assertEqual(single(place, row(text)), [len(fuller)] + row(fuller))

    def test_each_place_and_the_end(self):
        for signs in with_room():
            for place in range(len(signs) + 1):
                fuller = list(signs)
                fuller.insert(place, 1)
                self.assertEqual(single(place, signs), [len(signs) + 1] + fuller, (place, signs))
                self.assertEqual(is_one(fuller), [1], (place, signs))

    def test_put_in_and_lost_again_it_is_as_it_was(self):
        for signs in with_room():
            for place in range(len(signs) + 1):
                self.assertEqual(lose(place, single(place, signs)[1:]), [len(signs)] + signs, (place, signs))

    def test_above_the_number_of_places(self):
        for text, places in GATHERINGS:
            for place in (len(text) + 1, len(text) + 2, 22, 64, LARGEST):
                with self.subTest((place, text)):
                    self.assertEqual(single(place, row(text)), [-2])

    def test_21_already(self):
        full = [row(text) for text, places in GATHERINGS if len(text) == 21]
        self.assertGreater(len(full), 1)
        for signs in full:
            for place in list(range(23)) + [LARGEST]:
                with self.subTest((place, signs)):
                    self.assertEqual(single(place, signs), [-2])

    def test_until_there_are_21(self):
        signs = []
        for places in range(1, 22):
            answer = single(places - 1, signs)
            signs = answer[1:]
            self.assertEqual(answer, [places] + [1] * places)
        self.assertEqual(single(21, signs), [-2])

    def test_no_gathering_is_looked_at_first(self):
        for signs in NO_GATHERINGS:
            for place in list(range(len(signs) + 2)) + [LARGEST]:
                with self.subTest((place, signs)):
                    self.assertEqual(single(place, signs), [-1])


if __name__ == "__main__":
    unittest.main()
