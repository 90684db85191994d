import unittest

from quirefold.desk import is_one, join, lose, sheet, single
from rows import GATHERINGS, LARGEST, NO_GATHERINGS, gatherings_to_try, paired, row


def places_for_a_sheet():
    """Each gathering with room for a sheet, and each two places that may be its own by the document's words."""
    known = {}
    for signs in gatherings_to_try():
        if len(signs) <= 19:
            for first in range(len(signs) + 1):
                for second in range(first, len(signs) + 1):
                    if paired(tuple(signs[first:second]), known):
                        yield first, second, signs


class Sheet(unittest.TestCase):
    def test_written_answers(self):
        for first, second, text, fuller in [
            # Neighbours.
            (0, 0, "", "()"),
            (0, 0, "|", "()|"),
            (1, 1, "|", "|()"),
            (1, 1, "[)", "[())"),
            (2, 2, "[)", "[)()"),
            (2, 2, "([))", "([()))"),
            # Around all.
            (0, 1, "|", "(|)"),
            (0, 2, "[)", "([))"),
            (0, 4, "(][)", "((][))"),
            (0, 4, "([)]", "(([)])"),
            # Around some.
            (0, 1, "||", "(|)|"),
            (1, 2, "||", "|(|)"),
            (1, 2, "|||", "|(|)|"),
            (1, 3, "([))", "(([)))"),
            (0, 2, "(][)", "((])[)"),
            (2, 4, "(][)", "(]([))"),
            (1, 2, "(|)", "((|))"),
            (1, 2, "[|)", "[(|))"),
            (1, 2, "(|]", "((|)]"),
            (1, 4, "(|[))|", "((|[)))|"),
            # Up to 21 places.
            (0, 19, "|" * 19, "(" + "|" * 19 + ")"),
            (19, 19, "|" * 19, "|" * 19 + "()"),
            (9, 10, "(" * 9 + "|" + "]" * 9, "(" * 10 + "|" + ")" + "]" * 9),
        ]:
            with self.subTest((first, second, text)):
                self.assertEqual(sheet(first, second, row(text)), [len(text) + 2] + row(fuller))

    def test_not_paired_between(self):
        for first, second, text in [
            (0, 1, "()"), (1, 2, "()"), (0, 1, "[)"), (1, 2, "[)"), (0, 1, "(]"), (1, 2, "(]"),
            (0, 2, "(|)"), (1, 3, "(|)"), (1, 3, "()()"), (1, 3, "(][)"), (1, 3, "()[)"), (0, 3, "(())"),
            (1, 4, "(())"), (0, 2, "(())"), (2, 4, "(())"), (1, 3, "[)(]"), (0, 2, "|()|"), (2, 4, "|()|"),
            (0, 18, "(" + "|" * 17 + ")"), (1, 19, "(" + "|" * 17 + ")"),
        ]:
            with self.subTest((first, second, text)):
                self.assertEqual(sheet(first, second, row(text)), [-2])

    def test_each_two_places_by_the_words(self):
        fitting = list(places_for_a_sheet())
        for first, second, signs in fitting:
            fuller = list(signs)
            fuller.insert(second, 3)
            fuller.insert(first, 2)
            self.assertEqual(sheet(first, second, signs), [len(signs) + 2] + fuller, (first, second, signs))
        known = {(first, second, tuple(signs)) for first, second, signs in fitting}
        for signs in gatherings_to_try():
            for first in range(len(signs) + 2):
                for second in range(len(signs) + 2):
                    if (first, second, tuple(signs)) not in known:
                        self.assertEqual(sheet(first, second, signs), [-2], (first, second, signs))

    def test_leaves_a_gathering(self):
        for first, second, signs in places_for_a_sheet():
            answer = sheet(first, second, signs)
            self.assertEqual(answer[0], len(answer) - 1)
            self.assertEqual(is_one(answer[1:]), [1], (first, second, signs))

    def test_put_in_and_lost_again_it_is_as_it_was(self):
        for first, second, signs in places_for_a_sheet():
            fuller = sheet(first, second, signs)[1:]
            first_lost = lose(first, fuller)[1:]
            self.assertEqual(lose(second, first_lost), [len(signs)] + signs, (first, second, signs))
            second_lost = lose(second + 1, fuller)[1:]
            self.assertEqual(lose(first, second_lost), [len(signs)] + signs, (first, second, signs))

    def test_is_two_leaves_alone_joined(self):
        for first, second, signs in places_for_a_sheet():
            apart = single(first, single(second, signs)[1:])[1:]
            self.assertEqual(sheet(first, second, signs), join(first, second + 1, apart), (first, second, signs))

    def test_first_above_second(self):
        for first, second, text in [(1, 0, ""), (1, 0, "|"), (2, 1, "||"), (2, 0, "()"), (1, 0, "()"),
                                    (LARGEST, 0, "||"), (LARGEST, 2, "||"), (2, 1, "(|)")]:
            with self.subTest((first, second, text)):
                self.assertEqual(sheet(first, second, row(text)), [-2])

    def test_above_the_number_of_places(self):
        for text, places in GATHERINGS:
            for first in (0, len(text), len(text) + 1, LARGEST):
                for second in (len(text) + 1, len(text) + 2, 64, LARGEST):
                    with self.subTest((first, second, text)):
                        self.assertEqual(sheet(first, second, row(text)), [-2])

    def test_19_places_and_more(self):
        for places in range(16, 22):
            for first, second in [(0, 0), (0, 1), (3, 5), (0, places), (places - 1, places), (places, places)]:
                with self.subTest((first, second, places)):
                    fits = places <= 19
                    self.assertEqual(sheet(first, second, [1] * places)[0], places + 2 if fits else -2)
        for text in ["(" * 10 + ")" * 10, "[)" * 10, "(" * 10 + "|" + ")" * 10, "(][)" * 5 + "|"]:
            for first in range(22):
                for second in range(22):
                    self.assertEqual(sheet(first, second, row(text)), [-2])

    def test_no_gathering_is_looked_at_first(self):
        for signs in NO_GATHERINGS:
            numbers = [0, 1, len(signs) - 1, len(signs), len(signs) + 1, LARGEST]
            for first in numbers:
                for second in numbers:
                    with self.subTest((first, second, signs)):
                        self.assertEqual(sheet(first, second, signs), [-1])


if __name__ == "__main__":
    unittest.main()
