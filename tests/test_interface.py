import contextlib
import inspect
import io
import itertools
import unittest

from quirefold import desk
from rows import GATHERINGS, LARGEST, LARGEST_NUMBER_OF_ALL, NO_GATHERINGS, NO_TEXTS, bytes_of, row


def refuse(self, *given, **named):
    raise AssertionError("what is handed in was changed")


class Watched(list):
    """A list that cannot be changed, not for a while either."""

    append = clear = extend = insert = pop = remove = reverse = sort = refuse
    __setitem__ = __delitem__ = __iadd__ = __imul__ = refuse


ROWS = [row(text) for text, places in GATHERINGS] + NO_GATHERINGS

TEXTS = [bytes_of(text) for text, places in GATHERINGS] + NO_TEXTS

ARGUMENTS = {
    "is_one": ["g"],
    "leaves": ["g"],
    "leaf": ["k", "g"],
    "which": ["p", "g"],
    "mate": ["p", "g"],
    "depth": ["p", "g"],
    "where": ["s", "g"],
    "turn": ["g"],
    "lose": ["p", "g"],
    "cut": ["p", "g"],
    "mend": ["p", "g"],
    "single": ["p", "g"],
    "sheet": ["p", "q", "g"],
    "join": ["p", "q", "g"],
    "count": ["n"],
    "rank": ["g"],
    "at": ["n", "k"],
    "print_of": ["g"],
    "read": ["t"],
}

# Behind their number stand as many numbers as it says; behind that of every other call, nothing.
TELL_HOW_MANY = ["where", "turn", "lose", "cut", "mend", "single", "sheet", "join", "at", "print_of", "read"]

REFUSALS = {name: [-1, -2] if arguments[-1] == "g" else [-2] for name, arguments in ARGUMENTS.items()}
REFUSALS.update({"is_one": [], "leaves": [-1], "where": [-1], "turn": [-1], "rank": [-1], "print_of": [-1]})
REFUSALS.update({"which": [-1, -2, -3]})


def calls_on_rows(kind):
    for name, arguments in ARGUMENTS.items():
        if arguments[-1] == "g":
            for signs in ROWS:
                numbers = list(range(len(signs) + 2)) + [LARGEST]
                for chosen in itertools.product(numbers, repeat=len(arguments) - 1):
                    yield name, (*chosen, kind(signs))


def every_call(kind=list):
    yield from calls_on_rows(kind)
    for text in TEXTS:
        yield "read", (kind(text),)
    for places in list(range(24)) + [LARGEST]:
        yield "count", (places,)
        for number in [0, 1, 2, 3, 1000, LARGEST, LARGEST_NUMBER_OF_ALL]:
            yield "at", (places, number)


def answer_to(name, arguments):
    return getattr(desk, name)(*arguments)


class Interface(unittest.TestCase):
    def test_arguments(self):
        for name, arguments in ARGUMENTS.items():
            with self.subTest(name):
                self.assertEqual(list(inspect.signature(getattr(desk, name)).parameters), arguments)

    def test_answers_are_lists_of_whole_numbers(self):
        for name, arguments in every_call():
            answer = answer_to(name, arguments)
            self.assertIs(type(answer), list, (name, arguments))
            self.assertEqual({type(number) for number in answer}, {int}, (name, arguments))

    def test_what_stands_behind_the_number(self):
        for name, arguments in every_call():
            answer = answer_to(name, arguments)
            behind = answer[0] if name in TELL_HOW_MANY and answer[0] >= 0 else 0
            self.assertEqual(len(answer) - 1, behind, (name, arguments))

    def test_refusals_are_those_told(self):
        for name, arguments in every_call():
            number = answer_to(name, arguments)[0]
            if number < 0:
                self.assertIn(number, REFUSALS[name], (name, arguments))

    def test_list_is_as_it_was(self):
        for (name, arguments), (same_name, untouched) in zip(every_call(), every_call()):
            answer_to(name, arguments)
            self.assertEqual(arguments, untouched, name)

    def test_list_is_not_changed_for_a_while(self):
        for name, arguments in every_call(Watched):
            answer_to(name, arguments)

    def test_nothing_is_kept(self):
        for name, arguments in every_call():
            first = answer_to(name, arguments)
            as_answered = list(first)
            first.append(99)
            first[0] = 99
            self.assertEqual(answer_to(name, arguments), as_answered, (name, arguments))

    def test_a_changed_list_is_judged_anew(self):
        signs = [2, 3]
        self.assertEqual(desk.is_one(signs), [1])
        signs[0] = 4
        self.assertEqual(desk.leaves(signs), [1])
        signs[1] = 5
        self.assertEqual(desk.is_one(signs), [0])

    def test_prints_nothing(self):
        said = io.StringIO()
        with contextlib.redirect_stdout(said), contextlib.redirect_stderr(said):
            for name, arguments in every_call():
                answer_to(name, arguments)
        self.assertEqual(said.getvalue(), "")


if __name__ == "__main__":
    unittest.main()
