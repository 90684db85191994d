import contextlib
import inspect
import io
import unittest

from quirefold import desk
from rows import GATHERINGS, LARGEST, NO_GATHERINGS, row


def refuse(self, *given, **named):
    raise AssertionError("what is handed in was changed")


class Watched(list):
    """A list that cannot be changed, not for a while either."""

    append = clear = extend = insert = pop = remove = reverse = sort = refuse
    __setitem__ = __delitem__ = __iadd__ = __imul__ = refuse


ROWS = [row(text) for text, places in GATHERINGS] + NO_GATHERINGS


def calls_on(signs):
    yield desk.is_one, (signs,)
    yield desk.leaves, (signs,)
    for number in list(range(len(signs) + 2)) + [LARGEST]:
        yield desk.leaf, (number, signs)
        yield desk.which, (number, signs)


class Interface(unittest.TestCase):
    def test_arguments(self):
        for name, arguments in [("is_one", ["g"]), ("leaves", ["g"]), ("leaf", ["k", "g"]), ("which", ["p", "g"])]:
            with self.subTest(name):
                self.assertEqual(list(inspect.signature(getattr(desk, name)).parameters), arguments)

    def test_answers_are_one_whole_number_in_a_list(self):
        for signs in ROWS:
            for call, arguments in calls_on(signs):
                answer = call(*arguments)
                self.assertIs(type(answer), list)
                self.assertEqual([type(number) for number in answer], [int])

    def test_list_is_as_it_was(self):
        for signs in ROWS:
            handed_in = list(signs)
            for call, arguments in calls_on(handed_in):
                call(*arguments)
                self.assertEqual(handed_in, signs)

    def test_list_is_not_changed_for_a_while(self):
        for signs in ROWS:
            for call, arguments in calls_on(Watched(signs)):
                call(*arguments)

    def test_nothing_is_kept(self):
        for signs in ROWS:
            for call, arguments in calls_on(signs):
                first = call(*arguments)
                as_answered = list(first)
                first.append(99)
                self.assertEqual(call(*arguments), as_answered)

    def test_a_changed_list_is_judged_anew(self):
        signs = [2, 3]
        self.assertEqual(desk.is_one(signs), [1])
        signs[0] = 4
        self.assertEqual(desk.leaves(signs), [1])
        signs[1] = 5
        self.assertEqual(desk.is_one(signs), [0])

    def test_prints_nothing(self):
        said = io.StringIO()
        with contextlib.redirect_stdout(said), contextlib.redirect_stderr(said):
            for signs in ROWS:
                for call, arguments in calls_on(signs):
                    call(*arguments)
        self.assertEqual(said.getvalue(), "")


if __name__ == "__main__":
    unittest.main()
