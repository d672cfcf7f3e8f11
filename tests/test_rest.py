import datetime
import unittest

from tests.helper import EDGE_DATES, NO_DATES, ask, closed, easters, last_answer, rest, stop, way, week, yearly


class Rest(unittest.TestCase):
    def test_at_the_beginning_nothing_rests(self):
        for date in EDGE_DATES:
            weekday = datetime.date(*date).weekday()
            self.assertEqual(ask(rest(*date)), [[0, weekday]], date)

    def test_the_first_and_the_last_day(self):
        self.assertEqual(ask(rest(1600, 1, 1), rest(2999, 12, 31)), [[0, 5], [0, 1]])
        self.assertEqual(ask(rest(1599, 12, 31), rest(3000, 1, 1)), [[-1], [-1]])

    def test_february_29(self):
        found = ask(*[rest(year, 2, 29) for year in (1600, 1700, 2000, 2900, 2996)])
        self.assertEqual(found, [[0, 1], [-1], [0, 1], [-1], [0, 0]])

    def test_the_day_of_the_week_in_every_month(self):
        for year in range(1600, 3000):
            firsts = [datetime.date(year, month, 1) for month in range(1, 13)]
            ends = [first - datetime.timedelta(1) for first in firsts[1:]]
            dates = [*firsts, *ends, datetime.date(year, 12, 31)]
            found = ask(*[rest(date.year, date.month, date.day) for date in dates])
            self.assertEqual(found, [[0, date.weekday()] for date in dates])

    def test_no_date(self):
        for date in NO_DATES:
            self.assertEqual(ask(rest(*date)), [[-1]], date)
            self.assertEqual(last_answer(week(0, 1, 2, 3, 4, 5), yearly(2, 29), rest(*date)), [-1], date)

    def test_a_refusal_changes_nothing(self):
        told = [week(6), yearly(1, 1), easters(1), closed(2026, 1, 2), way(0, 0, 0), stop((2026, 1, 1), (2026, 1, 1))]
        later = [rest(2026, 1, 4), rest(2026, 1, 1), rest(2026, 4, 6), rest(2026, 1, 2), yearly(1, 1), easters(1),
                 closed(2026, 1, 2), way(0, 0, 0), stop((2026, 1, 2), (2026, 1, 2))]
        expected = [[1, 6], [1, 3], [1, 0], [1, 4], [2], [2], [2], [1], [2]]
        self.assertEqual(ask(*told, *later)[6:], expected)
        self.assertEqual(ask(*told, rest(2026, 2, 29), *later)[6:], [[-1], *expected])

    def test_asking_changes_nothing(self):
        self.assertEqual(ask(week(6), rest(2026, 4, 5), rest(2026, 4, 5), rest(2026, 4, 6), yearly(1, 1)),
                         [[1], [1, 6], [1, 6], [0, 0], [1]])

    def test_all_kinds_together(self):
        told = [week(5, 6), yearly(12, 25), easters(-2), easters(1), closed(2026, 5, 15)]
        resting = ((2026, 4, 4), (2026, 4, 5), (2026, 12, 25), (2026, 4, 3), (2026, 4, 6), (2026, 5, 15),
                   (2025, 12, 25), (2025, 4, 18), (2025, 4, 21), (1600, 1, 1))
        others = ((2026, 4, 2), (2026, 4, 7), (2026, 12, 24), (2025, 5, 15), (2025, 4, 3), (2999, 12, 31))
        for date in resting:
            self.assertEqual(last_answer(*told, rest(*date)), [1, datetime.date(*date).weekday()], date)
        for date in others:
            self.assertEqual(last_answer(*told, rest(*date)), [0, datetime.date(*date).weekday()], date)

    def test_a_day_that_rests_for_several_reasons(self):
        told = [week(6), yearly(4, 5), easters(0), closed(2026, 4, 5)]
        self.assertEqual(last_answer(*told, rest(2026, 4, 5)), [1, 6])

    def test_told_behind_the_asking(self):
        self.assertEqual(ask(rest(2026, 4, 5), week(6), rest(2026, 4, 5)), [[0, 6], [1], [1, 6]])


if __name__ == "__main__":
    unittest.main()
