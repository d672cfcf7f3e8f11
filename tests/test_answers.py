import builtins
import contextlib
import inspect
import io
import sys
import unittest
from unittest import mock

from daycounts.calendar import answers
from tests.helper import ask, begins, closed, easters, joined, rest, stop, way, week, yearly

EACH_CALL = joined([
    week(5, 6), yearly(12, 25), easters(1), closed(2026, 5, 15), way(1, 3, 2), stop((2026, 1, 1), (2026, 1, 2)),
    rest(2026, 4, 6), week(6, 5), yearly(2, 30), easters(61), closed(1, 1, 1), way(0, 4, 0),
    stop((2026, 1, 2), (2026, 1, 1)), rest(3000, 1, 1), begins(), rest(2026, 4, 6), week(),
])
EACH_ANSWER = [
    1, 2, 1, 1, 1, 1, 1, 1, 1, 0, 1, 1,
    2, 1, 0, 1, -1, 1, -1, 1, -1, 1, -1, 1, -1,
    1, -3, 1, -1, 1, 0, 2, 0, 0, 1, 0,
]


class Watched(list):
    """A list that refuses to be changed."""

    def refuse(self, *given, **named):
        raise AssertionError("what is handed in was changed")

    append = extend = insert = pop = remove = clear = sort = reverse = refuse
    __setitem__ = __delitem__ = __iadd__ = __imul__ = refuse


class Answers(unittest.TestCase):
    def test_each_call_as_it_is_handed_in_and_answered(self):
        self.assertEqual(answers(list(EACH_CALL)), EACH_ANSWER)

    def test_a_list_of_whole_numbers_comes_back(self):
        found = answers(list(EACH_CALL))
        self.assertIs(type(found), list)
        self.assertEqual({type(number) for number in found}, {int})

    def test_one_call(self):
        self.assertEqual(answers([0]), [1, 0])
        self.assertEqual(answers([1, 0]), [1, 0])
        self.assertEqual(answers([7, 1600, 1, 1]), [2, 0, 5])
        self.assertEqual(answers([7, 1599, 12, 31]), [1, -1])

    def test_a_hundred_calls(self):
        calls = [*[yearly(12, 25)] * 40, *[easters(0)] * 40, *[way(0, 0, 0)] * 8, begins(), *[yearly(1, 1)] * 10,
                 rest(2026, 1, 1)]
        self.assertEqual(len(calls), 100)
        counted = [[number] for number in range(1, 41)]
        self.assertEqual(ask(*calls), [*counted, *counted, *[[number] for number in range(8)], [0], *counted[:10],
                                       [1, 3]])
        self.assertEqual(ask(*[week(*range(20))] * 99, week(1)), [*[[-1]] * 99, [1]])
        self.assertEqual(ask(*[begins()] * 100), [[0]] * 100)

    def test_calls_are_not_changed(self):
        calls = list(EACH_CALL)
        answers(calls)
        self.assertEqual(calls, EACH_CALL)

    def test_calls_are_not_changed_for_a_while_either(self):
        self.assertEqual(answers(Watched(EACH_CALL)), EACH_ANSWER)

    def test_what_comes_back_is_a_list_of_its_own(self):
        calls = list(EACH_CALL)
        found = answers(calls)
        found.clear()
        self.assertEqual(answers(calls), EACH_ANSWER)

    def test_nothing_is_kept_from_one_time_to_the_next(self):
        told = joined([week(0, 6), yearly(4, 5), easters(0), closed(2026, 4, 5), way(0, 0, 0),
                       stop((2999, 12, 31), (2999, 12, 31))])
        first = answers(told)
        self.assertEqual(first, [1, 2, 1, 1, 1, 1, 1, 1, 1, 0, 1, 1])
        self.assertEqual(answers(rest(2026, 4, 5)), [2, 0, 6])
        self.assertEqual(answers(told), first)
        self.assertEqual(answers(told), first)

    def test_prints_reads_and_imports_nothing(self):
        printed = io.StringIO()
        with contextlib.redirect_stdout(printed), contextlib.redirect_stderr(printed):
            with mock.patch.object(builtins, "open", side_effect=AssertionError), \
                    mock.patch.object(builtins, "input", side_effect=AssertionError), \
                    mock.patch.object(builtins, "__import__", side_effect=AssertionError):
                found = answers(list(EACH_CALL))
        self.assertEqual(found, EACH_ANSWER)
        self.assertEqual(printed.getvalue(), "")

    def test_long_lists_are_gone_through_by_loops(self):
        before = sys.getrecursionlimit()
        calls = joined([week(0, 1, 2, 3, 4, 5)] * 50 + [rest(2026, 4, 5)] * 50)
        sys.setrecursionlimit(len(inspect.stack()) + 30)
        try:
            found = answers(calls)
        finally:
            sys.setrecursionlimit(before)
        self.assertEqual(found, [1, 6] * 50 + [2, 0, 6] * 50)


if __name__ == "__main__":
    unittest.main()
