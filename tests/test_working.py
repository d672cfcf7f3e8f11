import unittest

from tests.helper import (
    EDGE_DATES, NO_DATES, ask, begins, closed, easters, last_answer, shifted, stop, way, week, working, yearly,
)


class Working(unittest.TestCase):
    def check(self, number, told, first, second):
        self.assertEqual(last_answer(*told, working(first, second)), [number], (first, second))

    def test_both_days_are_counted(self):
        self.check(10, [], (2026, 1, 10), (2026, 1, 19))
        self.check(2, [], (2026, 1, 31), (2026, 2, 1))
        self.check(366, [], (2024, 1, 1), (2024, 12, 31))

    def test_one_day(self):
        for date in EDGE_DATES:
            self.check(1, [], date, date)
        self.check(0, [week(5)], (2026, 1, 10), (2026, 1, 10))
        self.check(0, [stop((2026, 1, 10), (2026, 1, 10))], (2026, 1, 10), (2026, 1, 10))

    def test_days_of_rest(self):
        self.check(22, [week(5, 6)], (2026, 1, 1), (2026, 1, 31))
        self.check(5, [week(5, 6)], (2026, 1, 9), (2026, 1, 15))
        self.check(20, [week(5, 6), yearly(1, 1), closed(2026, 1, 2), closed(2026, 1, 3)], (2026, 1, 1), (2026, 1, 31))
        self.check(28, [easters(-2), easters(1)], (2026, 4, 1), (2026, 4, 30))
        self.check(0, [week(5, 6)], (2026, 1, 10), (2026, 1, 11))

    def test_days_that_are_stopped(self):
        self.check(7, [stop((2026, 1, 12), (2026, 1, 14))], (2026, 1, 10), (2026, 1, 19))
        self.check(9, [stop((2026, 1, 1), (2026, 1, 10))], (2026, 1, 10), (2026, 1, 19))
        self.check(9, [stop((2026, 1, 19), (2026, 1, 31))], (2026, 1, 10), (2026, 1, 19))
        self.check(10, [stop((2026, 1, 1), (2026, 1, 9)), stop((2026, 1, 20), (2026, 1, 31))],
                   (2026, 1, 10), (2026, 1, 19))
        self.check(0, [stop((1600, 1, 1), (2999, 12, 31))], (2026, 1, 10), (2030, 1, 1))

    def test_days_that_rest_and_are_stopped(self):
        told = [week(5, 6), stop((2026, 1, 9), (2026, 1, 12)), stop((2026, 1, 31), (2026, 1, 31))]
        self.check(20, told, (2026, 1, 1), (2026, 1, 31))

    def test_across_years(self):
        told = [week(5, 6), yearly(12, 25), yearly(1, 1), stop((2025, 12, 30), (2026, 1, 5))]
        self.check(7, told, (2025, 12, 20), (2026, 1, 7))
        self.check(4, [yearly(2, 29)], (2023, 2, 28), (2023, 3, 3))
        self.check(4, [yearly(2, 29)], (2024, 2, 28), (2024, 3, 3))

    def test_4000_days_later(self):
        self.check(4001, [], (2000, 1, 1), shifted((2000, 1, 1), 4000))
        self.check(4000, [], (2000, 1, 1), shifted((2000, 1, 1), 3999))
        self.check(-3, [], (2000, 1, 1), shifted((2000, 1, 1), 4001))
        self.check(4001, [], shifted((2999, 12, 31), -4000), (2999, 12, 31))
        self.check(-3, [], (1600, 1, 1), (2999, 12, 31))

    def test_ways_say_nothing(self):
        self.check(10, [way(1, 3, 2)], (2026, 1, 10), (2026, 1, 19))

    def test_after_begins(self):
        self.check(10, [week(5, 6), stop((2026, 1, 10), (2026, 1, 11)), begins()], (2026, 1, 10), (2026, 1, 19))


class Refusals(unittest.TestCase):
    def test_no_date(self):
        for date in NO_DATES:
            self.assertEqual(ask(working(date, (2026, 1, 1))), [[-1]], date)
            self.assertEqual(ask(working((2026, 1, 1), date)), [[-1]], date)
            self.assertEqual(ask(working((1600, 1, 1), date)), [[-1]], date)
            self.assertEqual(ask(working((2999, 12, 31), date)), [[-1]], date)

    def test_the_second_before_the_first(self):
        for first, second in (
            ((2026, 1, 2), (2026, 1, 1)), ((2026, 2, 1), (2026, 1, 31)), ((2026, 1, 1), (2025, 12, 31)),
            ((2999, 12, 31), (1600, 1, 1)),
        ):
            self.assertEqual(ask(working(first, second)), [[-3]])

    def test_a_refusal_changes_nothing(self):
        asked = working((2026, 1, 10), (2026, 1, 19))
        refused = [working((2026, 2, 29), (2026, 3, 1)), working((2026, 1, 2), (2026, 1, 1))]
        self.assertEqual(ask(week(5, 6), asked, *refused, asked, yearly(1, 1))[1:], [[6], [-1], [-3], [6], [1]])


if __name__ == "__main__":
    unittest.main()
