import unittest

from quirefold.desk import is_one, turn
from rows import NO_GATHERINGS, gatherings_to_try, pairs_of, row


class Turn(unittest.TestCase):
    def test_written_answers(self):
        for text, turned in [
            ("", ""),
            ("|", "|"),
            ("()", "()"),
            ("[)", "(]"),
            ("(]", "[)"),
            ("|()", "()|"),
            ("[|)||", "||(|]"),
            ("(())()", "()(())"),
            ("([))", "((])"),
            ("[())", "(()]"),
            ("[(])", "([)]"),
            ("(][)", "(][)"),
            ("(()[|))|", "|((|]())"),
            ("[" * 10 + "|" + ")" * 10, "(" * 10 + "|" + "]" * 10),
            ("(][)" * 5 + "|", "|" + "(][)" * 5),
        ]:
            with self.subTest(text):
                self.assertEqual(turn(row(text)), [len(text)] + row(turned))

    def test_empty_is_how_many_alone(self):
        self.assertEqual(turn([]), [0])

    def test_pairs_are_turned_too(self):
        for signs in gatherings_to_try():
            last = len(signs) - 1
            turned = sorted((last - second, last - first) for first, second in pairs_of(signs))
            self.assertEqual(pairs_of(turn(signs)[1:]), turned, signs)

    def test_leaves_a_gathering(self):
        for signs in gatherings_to_try():
            answer = turn(signs)
            self.assertEqual(answer[0], len(signs))
            self.assertEqual(len(answer) - 1, len(signs))
            self.assertEqual(is_one(answer[1:]), [1])

    def test_twice_it_is_as_it_was(self):
        for signs in gatherings_to_try():
            self.assertEqual(turn(turn(signs)[1:]), [len(signs)] + signs)

    def test_no_gathering(self):
        for signs in NO_GATHERINGS:
            with self.subTest(signs):
                self.assertEqual(turn(signs), [-1])


if __name__ == "__main__":
    unittest.main()
