import unittest

from quirefold.desk import count, rank
from rows import GATHERINGS, NO_GATHERINGS, ends_well, gatherings_of, row

FULL = [row(text) for text, places in GATHERINGS if len(text) == 21]


def before(signs, known):
    """How many gatherings of as many places come before it, counted by where they part from it first."""
    many = 0
    waiting = ()
    for place, sign in enumerate(signs):
        rest = len(signs) - place - 1
        top = waiting[-1] if waiting else None
        after = {1: waiting, 2: waiting + (2,), 4: waiting + (4,)}
        if top is not None:
            after[3] = waiting[:-1]
        if top == 2:
            after[5] = waiting[:-1]
        many += sum(ends_well(after[lesser], rest, known) for lesser in after if lesser < sign)
        waiting = after[sign]
    return many


class Rank(unittest.TestCase):
    def test_written_answers(self):
        for text, number in [
            ("", 0),
            ("|", 0),
            ("||", 0), ("()", 1), ("(]", 2), ("[)", 3),
            ("|||", 0), ("|()", 1), ("|(]", 2), ("|[)", 3), ("(|)", 4), ("(|]", 5), ("()|", 6), ("(]|", 7),
            ("[|)", 8), ("[)|", 9),
            ("||||", 0), ("[)[)", 35), ("[[))", 36),
            ("|" * 21, 0),
            ("|" * 19 + "()", 1),
            ("|" * 19 + "(]", 2),
            ("|" * 19 + "[)", 3),
            ("|" * 18 + "(|)", 4),
            ("|" + "[" * 10 + ")" * 10, 115152607830),
            ("[" * 10 + "|" + ")" * 10, 480244735160),
            ("[" * 10 + ")" * 10, 115152607830),
            ("[" * 10 + ")" * 9 + "|)", 480244735169),
            ("[" * 10 + ")" * 10 + "|", 480244735170),
        ]:
            with self.subTest(text):
                self.assertEqual(rank(row(text)), [number])

    def test_first_and_last_of_each_number_of_places(self):
        for places in range(22):
            last = [4] * (places // 2) + [3] * (places // 2) + [1] * (places % 2)
            with self.subTest(places):
                self.assertEqual(rank([1] * places), [0])
                self.assertEqual(rank(last), [count(places)[0] - 1])

    def test_all_of_few_places_in_order(self):
        for places in range(8):
            ranks = [rank(signs) for signs in gatherings_of(places)]
            self.assertEqual(ranks, [[number] for number in range(len(ranks))])

    def test_long_ones_by_counting_those_before(self):
        known = {}
        for text, places in GATHERINGS:
            with self.subTest(text):
                self.assertEqual(rank(row(text)), [before(row(text), known)])

    def test_order_of_long_ones(self):
        ranks = [rank(signs)[0] for signs in sorted(FULL)]
        self.assertEqual(ranks, sorted(set(ranks)))
        self.assertLess(ranks[-1], count(21)[0])

    def test_no_gathering(self):
        for signs in NO_GATHERINGS:
            with self.subTest(signs):
                self.assertEqual(rank(signs), [-1])


if __name__ == "__main__":
    unittest.main()
