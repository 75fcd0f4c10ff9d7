"""What the document's interface says of how after is called and what it leaves alone."""

import ast
import contextlib
import inspect
import io
import pathlib
import unittest

import introduced.guests
from introduced.guests import after

CALLS = (
    (1, 0, []),
    (4, 1, [0, 1, 1, 2, 2, 3]),
    (8, 5, [7, 6, 6, 7, 5, 4, 4, 3]),
    (8, 5, [0, 1] * 28),
    (8, 0, [0, 1] * 30),
    (3, 6, [2, 1]),
    (3, 1, [2, 1, 0]),
    (3, 1, [2, 2]),
    (0, 1, [9, 200]),
)


def refuse_change(*args, **kwargs):
    raise AssertionError("the list handed in was changed")


class Untouchable(list):
    """A list that tells of a change even where it is taken back again."""

    append = clear = extend = insert = pop = remove = reverse = sort = refuse_change
    __setitem__ = __delitem__ = __iadd__ = __imul__ = refuse_change


class Interface(unittest.TestCase):
    def test_its_arguments(self):
        parameters = inspect.signature(after).parameters.values()
        self.assertEqual([each.name for each in parameters], ["n", "k", "l"])
        self.assertEqual([each.default for each in parameters], [inspect.Parameter.empty] * 3)
        self.assertEqual(after(n=3, k=1, l=[0, 1, 1, 2]), [3, 6, 5, 3])

    def test_it_stands_in_its_module(self):
        self.assertEqual(after.__module__, "introduced.guests")

    def test_it_gives_back_a_list_of_whole_numbers(self):
        for call in CALLS:
            answer = after(*call)
            self.assertIs(type(answer), list)
            self.assertEqual({type(number) for number in answer}, {int})

    def test_its_length(self):
        for n, k, l in CALLS:
            answer = after(n, k, l)
            self.assertEqual(len(answer), 1 if answer[0] < 0 else n + 1)


class LeftAlone(unittest.TestCase):
    def test_the_list_is_as_it_was(self):
        for n, k, l in CALLS:
            handed_in = list(l)
            after(n, k, handed_in)
            self.assertEqual(handed_in, l)

    def test_the_list_is_not_changed_for_a_while_either(self):
        for n, k, l in CALLS:
            self.assertEqual(after(n, k, Untouchable(l)), after(n, k, l))

    def test_the_same_call_answers_the_same(self):
        first = [after(*call) for call in CALLS]
        self.assertEqual([after(*call) for call in CALLS], first)
        self.assertEqual([after(*call) for call in reversed(CALLS)], first[::-1])

    def test_what_was_given_back_is_the_callers(self):
        for call in CALLS:
            answer = after(*call)
            as_it_was = list(answer)
            answer.append(99)
            answer[0] = 99
            self.assertEqual(after(*call), as_it_was)

    def test_it_prints_nothing(self):
        for stream in (contextlib.redirect_stdout, contextlib.redirect_stderr):
            printed = io.StringIO()
            with stream(printed):
                for call in CALLS:
                    after(*call)
            self.assertEqual(printed.getvalue(), "")

    def test_it_imports_and_reads_nothing(self):
        folder = pathlib.Path(introduced.guests.__file__).parent
        for path in sorted(folder.glob("*.py")):
            for node in ast.walk(ast.parse(path.read_text(encoding="ascii"))):
                self.assertNotIsInstance(node, (ast.Import, ast.ImportFrom), path.name)
                if isinstance(node, ast.Name):
                    self.assertNotIn(node.id, ("open", "input", "print", "__import__"), path.name)


if __name__ == "__main__":
    unittest.main()
