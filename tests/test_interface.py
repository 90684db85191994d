import contextlib
import inspect
import io
import itertools
import unittest

from quirefold import desk
from rows import GATHERINGS, LARGEST, NO_GATHERINGS, row


def refuse(self, *given, **named):
    raise AssertionError("what is handed in was changed")


class Watched(list):
    """A list that cannot be changed, not for a while either."""

    append = clear = extend = insert = pop = remove = reverse = sort = refuse
    __setitem__ = __delitem__ = __iadd__ = __imul__ = refuse


ROWS = [row(text) for text, places in GATHERINGS] + NO_GATHERINGS

ARGUMENTS = {
    "is_one": ["g"],
    "leaves": ["g"],
    "leaf": ["k", "g"],
    "which": ["p", "g"],
    "mate": ["p", "g"],
    "depth": ["p", "g"],
    "where": ["s", "g"],
    "turn": ["g"],
    "lose": ["p", "g"],
    "cut": ["p", "g"],
    "mend": ["p", "g"],
    "single": ["p", "g"],
    "sheet": ["p", "q", "g"],
    "join": ["p", "q", "g"],
    "count": ["n"],
    "rank": ["g"],
}

# Behind their number stand as many numbers as it says; behind that of every other call, nothing.
TELL_HOW_MANY = ["where", "turn", "lose", "cut", "mend", "single", "sheet", "join"]


def numbers_for(signs):
    return list(range(len(signs) + 2)) + [LARGEST]


def calls_on(signs):
    for name, arguments in ARGUMENTS.items():
        choices = [[signs] if argument == "g" else numbers_for(signs) for argument in arguments]
        for chosen in itertools.product(*choices):
            yield getattr(desk, name), chosen


class Interface(unittest.TestCase):
    def test_arguments(self):
        for name, arguments in ARGUMENTS.items():
            with self.subTest(name):
                self.assertEqual(list(inspect.signature(getattr(desk, name)).parameters), arguments)

    def test_answers_are_lists_of_whole_numbers(self):
        for signs in ROWS:
            for call, arguments in calls_on(signs):
                answer = call(*arguments)
                self.assertIs(type(answer), list)
                self.assertEqual({type(number) for number in answer}, {int})

    def test_what_stands_behind_the_number(self):
        for signs in ROWS:
            for call, arguments in calls_on(signs):
                answer = call(*arguments)
                behind = answer[0] if call.__name__ in TELL_HOW_MANY and answer[0] >= 0 else 0
                self.assertEqual(len(answer) - 1, behind, (call, arguments))

    def test_list_is_as_it_was(self):
        for signs in ROWS:
            handed_in = list(signs)
            for call, arguments in calls_on(handed_in):
                call(*arguments)
                self.assertEqual(handed_in, signs)

    def test_list_is_not_changed_for_a_while(self):
        for signs in ROWS:
            for call, arguments in calls_on(Watched(signs)):
                call(*arguments)

    def test_nothing_is_kept(self):
        for signs in ROWS:
            for call, arguments in calls_on(signs):
                first = call(*arguments)
                as_answered = list(first)
                first.append(99)
                self.assertEqual(call(*arguments), as_answered)

    def test_a_changed_list_is_judged_anew(self):
        signs = [2, 3]
        self.assertEqual(desk.is_one(signs), [1])
        signs[0] = 4
        self.assertEqual(desk.leaves(signs), [1])
        signs[1] = 5
        self.assertEqual(desk.is_one(signs), [0])

    def test_prints_nothing(self):
        said = io.StringIO()
        with contextlib.redirect_stdout(said), contextlib.redirect_stderr(said):
            for signs in ROWS:
                for call, arguments in calls_on(signs):
                    call(*arguments)
        self.assertEqual(said.getvalue(), "")


if __name__ == "__main__":
    unittest.main()
