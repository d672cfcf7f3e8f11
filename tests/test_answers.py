import builtins
import contextlib
import inspect
import io
import sys
import unittest
from unittest import mock

from daycounts.calendar import answers
from tests.helper import (
    DAYS, MONTHS, WORKING_DAYS, anew, ask, begins, between, closed, easter, easters, in_time, joined, last, latest,
    rest, stop, way, week, working, yearly,
)

TOLD = [
    week(5, 6), yearly(12, 25), easters(1), closed(2026, 5, 15), way(1, 3, 2), stop((2026, 1, 1), (2026, 1, 2)),
]
ASKED = [
    rest(2026, 4, 6), last(0, (2026, 4, 1), DAYS, 6), anew(0, (2026, 4, 1), DAYS, 6, [(2026, 4, 2), (2026, 4, 7)]),
    latest(0, (2026, 4, 7), DAYS, 6), in_time((2026, 4, 1), (2026, 4, 7), DAYS, 6),
    between(0, (2026, 2, 28), (2027, 4, 1)), working((2025, 12, 22), (2026, 1, 5)), easter(2026),
]
REFUSED = [
    week(6, 5), yearly(2, 30), easters(61), closed(1, 1, 1), way(0, 4, 0), stop((2026, 1, 2), (2026, 1, 1)),
    rest(3000, 1, 1), last(1, (2026, 4, 1), DAYS, 6), anew(0, (2026, 4, 1), DAYS, 6, [(2026, 4, 2), (2026, 4, 2)]),
    latest(0, (1600, 1, 1), MONTHS, 1), in_time((2026, 4, 1), (2026, 4, 7), 5, 6),
    between(1, (2026, 2, 28), (2027, 4, 1)), working((2026, 1, 5), (2025, 12, 22)), easter(3000),
    last(0, (2999, 12, 31), WORKING_DAYS, 2),
]
# What is asked stands before and behind the refusals, which change nothing.
EACH_CALL = joined([
    *TOLD, *ASKED, *REFUSED, *ASKED, begins(), rest(2026, 4, 6), last(0, (2026, 4, 1), DAYS, 6), week(),
])
TOLD_ANSWER = [1, 2, 1, 1, 1, 1, 1, 1, 1, 0, 1, 1]
ASKED_ANSWER = [
    2, 1, 0, 4, 1, 2026, 4, 7, 4, 0, 2026, 4, 13, 4, 3, 2026, 4, 2, 2, 1, 0, 4, 1, 1, 1, 397, 1, 8, 4, 0, 2026, 4, 5,
]
REFUSED_ANSWER = joined([[1, number] for number in (-1, -1, -1, -1, -1, -3, -1, -2, -3, -7, -1, -2, -3, -1, -6)])
EACH_ANSWER = [*TOLD_ANSWER, *ASKED_ANSWER, *REFUSED_ANSWER, *ASKED_ANSWER, 1, 0, 2, 0, 0, 1, -2, 1, 0]


class Watched(list):
    """A list that refuses to be changed."""

    def refuse(self, *given, **named):
        raise AssertionError("what is handed in was changed")

    append = extend = insert = pop = remove = clear = sort = reverse = refuse
    __setitem__ = __delitem__ = __iadd__ = __imul__ = refuse


class Answers(unittest.TestCase):
    def test_each_call_as_it_is_handed_in_and_answered(self):
        self.assertEqual(answers(list(EACH_CALL)), EACH_ANSWER)

    def test_a_list_of_whole_numbers_comes_back(self):
        found = answers(list(EACH_CALL))
        self.assertIs(type(found), list)
        self.assertEqual({type(number) for number in found}, {int})

    def test_one_call(self):
        self.assertEqual(answers([0]), [1, 0])
        self.assertEqual(answers([1, 0]), [1, 0])
        self.assertEqual(answers([7, 1600, 1, 1]), [2, 0, 5])
        self.assertEqual(answers([7, 1599, 12, 31]), [1, -1])
        self.assertEqual(answers([8, 0, 2026, 1, 1, 0, 1]), [1, -2])
        self.assertEqual(answers([9, 0, 2026, 1, 1, 0, 1, 3, 2026, 1, 1]), [1, -2])
        self.assertEqual(answers([10, 0, 2026, 1, 1, 0, 1]), [1, -2])
        self.assertEqual(answers([11, 2026, 1, 1, 2026, 1, 1, 0, 1]), [1, 0])
        self.assertEqual(answers([12, 0, 2026, 1, 1, 2026, 1, 1]), [1, -2])
        self.assertEqual(answers([13, 2026, 1, 1, 2026, 1, 2]), [1, 2])
        self.assertEqual(answers([14, 2026]), [4, 0, 2026, 4, 5])

    def test_a_hundred_calls(self):
        calls = [*[yearly(12, 25)] * 40, *[easters(0)] * 40, *[way(0, 0, 0)] * 8, begins(), *[yearly(1, 1)] * 10,
                 rest(2026, 1, 1)]
        self.assertEqual(len(calls), 100)
        counted = [[number] for number in range(1, 41)]
        self.assertEqual(ask(*calls), [*counted, *counted, *[[number] for number in range(8)], [0], *counted[:10],
                                       [1, 3]])
        self.assertEqual(ask(*[week(*range(20))] * 99, week(1)), [*[[-1]] * 99, [1]])
        self.assertEqual(ask(*[begins()] * 100), [[0]] * 100)

    def test_a_hundred_calls_of_all_sorts(self):
        calls = [*TOLD, *ASKED * 10, *TOLD[:4], *ASKED, begins(), easter(1600)]
        self.assertEqual(len(calls), 100)
        self.assertEqual(answers(joined(calls)), [
            *TOLD_ANSWER, *ASKED_ANSWER * 10, 1, 2, 1, 2, 1, 2, 1, 2, *ASKED_ANSWER, 1, 0, 4, 0, 1600, 4, 2])

    def test_calendars_one_behind_another(self):
        calls = [*TOLD, *ASKED, begins()] * 6
        self.assertEqual(answers(joined(calls)), [*TOLD_ANSWER, *ASKED_ANSWER, 1, 0] * 6)

    def test_calls_are_not_changed(self):
        calls = list(EACH_CALL)
        answers(calls)
        self.assertEqual(calls, EACH_CALL)

    def test_calls_are_not_changed_for_a_while_either(self):
        self.assertEqual(answers(Watched(EACH_CALL)), EACH_ANSWER)

    def test_what_comes_back_is_a_list_of_its_own(self):
        calls = list(EACH_CALL)
        found = answers(calls)
        found.clear()
        self.assertEqual(answers(calls), EACH_ANSWER)

    def test_nothing_is_kept_from_one_time_to_the_next(self):
        told = joined([week(0, 6), yearly(4, 5), easters(0), closed(2026, 4, 5), way(0, 0, 0),
                       stop((2999, 12, 31), (2999, 12, 31))])
        first = answers(told)
        self.assertEqual(first, [1, 2, 1, 1, 1, 1, 1, 1, 1, 0, 1, 1])
        self.assertEqual(answers(rest(2026, 4, 5)), [2, 0, 6])
        self.assertEqual(answers(last(0, (2026, 4, 5), DAYS, 1)), [1, -2])
        self.assertEqual(answers(working((2026, 4, 4), (2026, 4, 6))), [1, 3])
        self.assertEqual(answers(told), first)
        self.assertEqual(answers(told), first)
        self.assertEqual(answers(list(EACH_CALL)), EACH_ANSWER)
        self.assertEqual(answers(list(EACH_CALL)), EACH_ANSWER)

    def test_prints_reads_and_imports_nothing(self):
        printed = io.StringIO()
        with contextlib.redirect_stdout(printed), contextlib.redirect_stderr(printed):
            with mock.patch.object(builtins, "open", side_effect=AssertionError), \
                    mock.patch.object(builtins, "input", side_effect=AssertionError), \
                    mock.patch.object(builtins, "__import__", side_effect=AssertionError):
                found = answers(list(EACH_CALL))
        self.assertEqual(found, EACH_ANSWER)
        self.assertEqual(printed.getvalue(), "")

    def test_what_is_long_is_gone_through_by_loops(self):
        before = sys.getrecursionlimit()
        dates = [(2000 + number, 1, 1) for number in range(20)]
        calls = joined([
            *[week(0, 1, 2, 3, 4, 5)] * 40, way(0, 1, 0), stop((1900, 1, 1), (1999, 12, 31)),
            *[anew(0, (2000, 1, 1), WORKING_DAYS, 999, dates)] * 5, last(0, (1900, 1, 1), WORKING_DAYS, 1),
            latest(0, (2999, 12, 31), MONTHS, 999), working((2000, 1, 1), (2010, 1, 1)),
            between(0, (1600, 1, 1), (2999, 12, 31)), *[rest(2026, 4, 5)] * 49,
        ])
        sys.setrecursionlimit(len(inspect.stack()) + 30)
        try:
            found = answers(calls)
        finally:
            sys.setrecursionlimit(before)
        self.assertEqual(found, [
            *[1, 6] * 40, 1, 0, 1, 1, *[4, 6, 2038, 2, 21] * 5, 1, -7, 4, 1, 2916, 9, 29, 1, 522,
            4, 1399, 11, 30, 511339, *[2, 0, 6] * 49])


if __name__ == "__main__":
    unittest.main()
