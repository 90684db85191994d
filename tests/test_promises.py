"""The promises A1 to A5 over all gatherings of few places and over some of 21."""

import unittest

from quirefold import desk
from rows import GATHERINGS, gatherings_of, gatherings_up_to, pairs_of, row


def some_of_21():
    spread = [desk.at(21, number)[1:] for number in range(0, 480244735171, 4802447351)]
    return spread + [row(text) for text, places in GATHERINGS if len(text) == 21]


def some_of_19():
    return [desk.at(19, number)[1:] for number in range(0, 27700303510, 277003035)]


def tried():
    return gatherings_up_to(6) + some_of_21()


def changes(signs):
    """Each call that takes out or puts in, at each place and at some that are none."""
    places = range(len(signs) + 2)
    for place in places:
        for call in (desk.lose, desk.cut, desk.mend, desk.single):
            yield call(place, signs)
        for other in places:
            for call in (desk.sheet, desk.join):
                yield call(place, other, signs)
    yield desk.turn(signs)


def built(signs, parts):
    """The gathering made of the empty one: its parts, leaves alone and pairs, put in one by one, then stubs cut."""
    made = []
    standing = []
    for part in parts:
        where = [len([place for place in standing if place < own]) for own in part]
        if len(part) == 1:
            made = desk.single(where[0], made)[1:]
        else:
            made = desk.sheet(where[0], where[1], made)[1:]
        standing.extend(part)
    for place, sign in enumerate(signs):
        if sign in (4, 5):
            made = desk.cut(place, made)[1:]
    return made


class A1(unittest.TestCase):
    def test_partners_are_each_others(self):
        for signs in tried():
            for place in range(len(signs)):
                self.assertEqual(desk.mate(desk.mate(place, signs)[0], signs), [place], signs)

    def test_pairs_never_cross(self):
        for signs in tried():
            for place in range(len(signs)):
                ends = sorted([place, desk.mate(place, signs)[0]])
                for within in range(ends[0] + 1, ends[1]):
                    self.assertTrue(ends[0] < desk.mate(within, signs)[0] < ends[1], signs)

    def test_a_leaf_is_in_each_pair(self):
        for signs in tried():
            for place in range(len(signs)):
                stubs = [end for end in (place, desk.mate(place, signs)[0]) if signs[end] in (4, 5)]
                self.assertLess(len(stubs), 2, signs)


class A2(unittest.TestCase):
    def test_numbers_and_gatherings_are_one_to_one_in_order(self):
        for places in range(7):
            in_order = [desk.at(places, number)[1:] for number in range(desk.count(places)[0])]
            self.assertEqual(in_order, gatherings_of(places))
            self.assertEqual([desk.rank(signs)[0] for signs in in_order], list(range(len(in_order))))

    def test_of_21_places(self):
        in_order = sorted(some_of_21())
        ranks = [desk.rank(signs)[0] for signs in in_order]
        self.assertEqual(ranks, sorted(ranks))
        self.assertEqual([desk.at(21, number)[1:] for number in ranks], in_order)

    def test_neighbours_of_21_places(self):
        for signs in some_of_21():
            number = desk.rank(signs)[0]
            if number > 0:
                before = desk.at(21, number - 1)[1:]
                self.assertLess(before, signs)
                self.assertEqual(desk.rank(before), [number - 1])

    def test_each_count_follows_from_lesser_ones(self):
        counts = [desk.count(places)[0] for places in range(22)]
        for places in range(2, 22):
            pairs = sum(counts[within] * counts[places - 2 - within] for within in range(places - 1))
            self.assertEqual(counts[places], counts[places - 1] + 3 * pairs)


class A3(unittest.TestCase):
    def test_every_change_leaves_a_gathering(self):
        for signs in tried():
            for answer in changes(signs):
                if answer[0] < 0:
                    self.assertEqual(answer, [-2])
                else:
                    self.assertEqual(answer[0], len(answer) - 1)
                    self.assertEqual(desk.is_one(answer[1:]), [1], (signs, answer))

    def test_leaf_alone_put_in_and_lost_again(self):
        for signs in tried():
            for place in range(len(signs) + 1):
                fuller = desk.single(place, signs)
                if fuller != [-2]:
                    self.assertEqual(desk.lose(place, fuller[1:]), [len(signs)] + signs)

    def test_sheet_put_in_and_lost_again(self):
        for signs in gatherings_up_to(6) + some_of_19():
            for first in range(len(signs) + 1):
                for second in range(first, len(signs) + 1):
                    fuller = desk.sheet(first, second, signs)
                    if fuller != [-2]:
                        self.assertEqual(fuller[0], len(signs) + 2)
                        one_lost = desk.lose(first, fuller[1:])[1:]
                        self.assertEqual(desk.lose(second, one_lost), [len(signs)] + signs)
                        one_lost = desk.lose(second + 1, fuller[1:])[1:]
                        self.assertEqual(desk.lose(first, one_lost), [len(signs)] + signs)

    def test_cut_and_mended_again(self):
        for signs in tried():
            for place in range(len(signs)):
                left = desk.cut(place, signs)
                if left[0] == len(signs):
                    self.assertEqual(desk.mend(place, left[1:]), [len(signs)] + signs)

    def test_turned_twice(self):
        for signs in tried():
            self.assertEqual(desk.turn(desk.turn(signs)[1:]), [len(signs)] + signs)


class A4(unittest.TestCase):
    def test_all_of_few_places_come_of_the_empty_one(self):
        most = 5
        found = {()}
        fresh = [[]]
        while fresh:
            signs = fresh.pop()
            places = range(len(signs) + 1)
            answers = [desk.single(place, signs) for place in places] + [desk.cut(place, signs) for place in places]
            answers += [desk.sheet(first, second, signs) for first in places for second in places]
            for answer in answers:
                if 0 <= answer[0] <= most and tuple(answer[1:]) not in found:
                    found.add(tuple(answer[1:]))
                    fresh.append(answer[1:])
        self.assertEqual(sorted(found), sorted(tuple(signs) for signs in gatherings_up_to(most)))

    def test_put_in_from_the_front_and_from_the_back(self):
        for signs in tried():
            alone = [(place,) for place, sign in enumerate(signs) if sign == 1]
            parts = sorted(alone + pairs_of(signs))
            self.assertEqual(built(signs, parts), signs)
            self.assertEqual(built(signs, list(reversed(parts))), signs)


class A5(unittest.TestCase):
    def test_texts_and_gatherings_are_one(self):
        texts = {}
        for signs in tried():
            answer = desk.print_of(signs)
            self.assertEqual(answer[0], len(signs))
            self.assertEqual(desk.read(answer[1:]), [len(signs)] + signs)
            texts[tuple(answer[1:])] = signs
        self.assertEqual(len(texts), len({tuple(signs) for signs in tried()}))


if __name__ == "__main__":
    unittest.main()
