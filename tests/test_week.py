import unittest

from tests.helper import TOP, ask, closed, easters, last_answer, rest, week, yearly

# January 1, 2024 is a Monday.
WEEK = [rest(2024, 1, day) for day in range(1, 8)]


def resting(*calls):
    found = ask(*calls, *WEEK)[-7:]
    return [weekday for rests, weekday in found if rests == 1]


class Week(unittest.TestCase):
    def test_these_rest(self):
        self.assertEqual(ask(week(5, 6)), [[2]])
        self.assertEqual(resting(week(5, 6)), [5, 6])
        for day in range(7):
            self.assertEqual(ask(week(day)), [[1]])
            self.assertEqual(resting(week(day)), [day])

    def test_no_others(self):
        self.assertEqual(resting(week(5, 6), week(4)), [4])
        self.assertEqual(resting(week(0, 2, 4), week(1, 2)), [1, 2])

    def test_no_day(self):
        self.assertEqual(ask(week()), [[0]])
        self.assertEqual(resting(week()), [])
        self.assertEqual(resting(week(5, 6), week()), [])

    def test_six_days(self):
        for missing in range(7):
            days = [day for day in range(7) if day != missing]
            self.assertEqual(ask(week(*days)), [[6]])
            self.assertEqual(resting(week(*days)), days)

    def test_more_than_six(self):
        self.assertEqual(ask(week(0, 1, 2, 3, 4, 5, 6)), [[-1]])
        self.assertEqual(ask(week(0, 1, 2, 3, 4, 5, 6, 7)), [[-1]])
        self.assertEqual(ask(week(*range(20))), [[-1]])
        self.assertEqual(ask(week(*[3] * 20)), [[-1]])

    def test_days_that_do_not_rise(self):
        for days in ((0, 0), (6, 6), (6, 5), (1, 0), (0, 1, 1), (0, 2, 1), (3, 3, 4), (4, 3, 5)):
            self.assertEqual(ask(week(*days)), [[-1]], days)

    def test_days_above_six(self):
        for days in ((7,), (0, 7), (5, 6, 7), (0, 1, 2, 3, 4, 7), (7, 1), (TOP,), (0, TOP), (TOP, 0)):
            self.assertEqual(ask(week(*days)), [[-1]], days)

    def test_several_faults_at_once(self):
        self.assertEqual(ask(week(9, 9, 8, 7, 6, 5, 4, 3)), [[-1]])
        self.assertEqual(ask(week(*[TOP] * 20)), [[-1]])

    def test_a_refusal_changes_nothing(self):
        for days in ((0, 0), (1, 0), (1, 2, 7), tuple(range(7)), tuple(range(20))):
            self.assertEqual(resting(week(5, 6), week(*days)), [5, 6], days)
            self.assertEqual(resting(week(*days)), [], days)

    def test_what_follows_a_row_is_read_as_a_call(self):
        self.assertEqual(ask(week(*range(20)), week(0), week(), week(1, 2)), [[-1], [1], [0], [2]])

    def test_other_days_of_rest_stay(self):
        for told in (yearly(1, 3), closed(2024, 1, 3)):
            self.assertEqual(resting(told, week(5)), [2, 5])
            self.assertEqual(resting(told, week(5), week()), [2])
        self.assertEqual(last_answer(easters(1), week(5), rest(2026, 4, 6)), [1, 0])


if __name__ == "__main__":
    unittest.main()
