"""What the document's interface says of how the functions are called and what they leave alone."""

import ast
import contextlib
import inspect
import io
import pathlib
import unittest

import introduced.guests
from introduced.guests import after, far, one, rounds

PARAMETERS = (
    (after, ["n", "k", "l"]),
    (rounds, ["n", "l"]),
    (far, ["n", "i", "j", "l"]),
    (one, ["n", "l"]),
)

# How long an answer is that's not a refusal.
LENGTHS = {
    after: lambda call, answer: 1 + call[1],
    rounds: lambda call, answer: 3,
    far: lambda call, answer: 2,
    one: lambda call, answer: 1 + 2 * answer[0],
}

CALLS = (
    (after, 1, 0, []),
    (after, 4, 1, [0, 1, 1, 2, 2, 3]),
    (after, 8, 5, [7, 6, 6, 7, 5, 4, 4, 3]),
    (after, 8, 5, [0, 1] * 28),
    (after, 8, 0, [0, 1] * 30),
    (after, 3, 6, [2, 1]),
    (after, 3, 1, [2, 1, 0]),
    (after, 3, 1, [2, 2]),
    (after, 0, 1, [9, 200]),
    (rounds, 1, []),
    (rounds, 4, [0, 1, 1, 2, 2, 3]),
    (rounds, 8, [7, 6, 6, 7, 5, 4, 4, 3]),
    (rounds, 8, [0, 1] * 28),
    (rounds, 8, [0, 1] * 30),
    (rounds, 3, [2, 1, 0]),
    (rounds, 3, [2, 2]),
    (rounds, 0, [9, 200]),
    (far, 1, 0, 0, []),
    (far, 4, 3, 0, [0, 1, 1, 2, 2, 3]),
    (far, 8, 3, 5, [7, 6, 6, 7, 5, 4, 4, 3]),
    (far, 8, 1, 0, [0, 1] * 28),
    (far, 8, 1, 0, [0, 1] * 30),
    (far, 3, 0, 1, [2, 1]),
    (far, 3, 3, 1, [2, 1]),
    (far, 3, 1, 4294967295, [2, 1]),
    (far, 3, 1, 2, [2, 1, 0]),
    (far, 3, 1, 2, [2, 2]),
    (far, 0, 1, 2, [9, 200]),
    (one, 1, []),
    (one, 4, [0, 1, 1, 2, 2, 3]),
    (one, 8, [7, 6, 6, 7, 5, 4, 4, 3]),
    (one, 8, [0, 1] * 28),
    (one, 8, [0, 1] * 30),
    (one, 3, [2, 1, 0]),
    (one, 3, [2, 2]),
    (one, 0, [9, 200]),
)


def answer_to(call):
    function, *arguments = call
    return function(*arguments)


def with_list(call, l):
    """The same call, handing in l instead of its list."""
    return (*call[:-1], l)


def refuse_change(*args, **kwargs):
    raise AssertionError("the list handed in was changed")


class Untouchable(list):
    """A list that tells of a change even where it is taken back again."""

    append = clear = extend = insert = pop = remove = reverse = sort = refuse_change
    __setitem__ = __delitem__ = __iadd__ = __imul__ = refuse_change


class Interface(unittest.TestCase):
    def test_the_arguments(self):
        for function, names in PARAMETERS:
            parameters = inspect.signature(function).parameters.values()
            self.assertEqual([each.name for each in parameters], names)
            self.assertEqual({each.default for each in parameters}, {inspect.Parameter.empty})
        self.assertEqual(after(n=3, k=1, l=[0, 1, 1, 2]), [3, 6, 5, 3])
        self.assertEqual(rounds(n=3, l=[0, 1, 1, 2]), [1, 1, 1])
        self.assertEqual(far(n=3, i=0, j=2, l=[0, 1, 1, 2]), [2, 1])
        self.assertEqual(one(n=3, l=[0, 1, 1, 2]), [1, 0, 2])

    def test_the_functions_stand_in_their_module(self):
        for function, _ in PARAMETERS:
            self.assertEqual(function.__module__, "introduced.guests")

    def test_a_list_of_whole_numbers_is_given_back(self):
        for call in CALLS:
            answer = answer_to(call)
            self.assertIs(type(answer), list)
            self.assertEqual({type(number) for number in answer}, {int})

    def test_the_length_of_an_answer(self):
        for call in CALLS:
            answer = answer_to(call)
            whole = LENGTHS[call[0]](call, answer)
            self.assertEqual(len(answer), 1 if answer[0] < 0 else whole)


class LeftAlone(unittest.TestCase):
    def test_the_list_is_as_it_was(self):
        for call in CALLS:
            handed_in = list(call[-1])
            answer_to(with_list(call, handed_in))
            self.assertEqual(handed_in, call[-1])

    def test_the_list_is_not_changed_for_a_while_either(self):
        for call in CALLS:
            self.assertEqual(answer_to(with_list(call, Untouchable(call[-1]))), answer_to(call))

    def test_the_same_call_answers_the_same(self):
        first = [answer_to(call) for call in CALLS]
        self.assertEqual([answer_to(call) for call in CALLS], first)
        self.assertEqual([answer_to(call) for call in reversed(CALLS)], first[::-1])

    def test_what_was_given_back_is_the_callers(self):
        for call in CALLS:
            answer = answer_to(call)
            as_it_was = list(answer)
            answer.append(99)
            answer[0] = 99
            self.assertEqual(answer_to(call), as_it_was)

    def test_nothing_is_printed(self):
        for stream in (contextlib.redirect_stdout, contextlib.redirect_stderr):
            printed = io.StringIO()
            with stream(printed):
                for call in CALLS:
                    answer_to(call)
            self.assertEqual(printed.getvalue(), "")

    def test_it_imports_and_reads_nothing(self):
        folder = pathlib.Path(introduced.guests.__file__).parent
        for path in sorted(folder.glob("*.py")):
            for node in ast.walk(ast.parse(path.read_text(encoding="ascii"))):
                self.assertNotIsInstance(node, (ast.Import, ast.ImportFrom), path.name)
                if isinstance(node, ast.Name):
                    self.assertNotIn(node.id, ("open", "input", "print", "__import__"), path.name)


if __name__ == "__main__":
    unittest.main()
