import datetime
import unittest

from tests.helper import EDGE_DATES, NO_DATES, TOP, ask, between, last_answer, stop, way, week


def by_months(months, first, second):
    return last_answer(way(0, 0, months), between(0, first, second))


class Between(unittest.TestCase):
    def check(self, parts, first, second):
        """The years, months and days, the same by all rules or of each rule in turn."""
        days = (datetime.date(*second) - datetime.date(*first)).days
        each = parts if isinstance(parts, list) else [parts] * 3
        for months, part in enumerate(each):
            self.assertEqual(by_months(months, first, second), [*part, days], (first, second, months))

    def test_years_months_days_and_all_days(self):
        self.assertEqual(ask(way(0, 0, 0), between(0, (2024, 1, 15), (2026, 4, 20))), [[0], [2, 3, 5, 826]])

    def test_the_same_day(self):
        for date in EDGE_DATES:
            self.check((0, 0, 0), date, date)

    def test_days_alone(self):
        self.check((0, 0, 1), (2026, 1, 1), (2026, 1, 2))
        self.check((0, 0, 30), (2026, 1, 1), (2026, 1, 31))
        self.check((0, 0, 1), (2026, 12, 31), (2027, 1, 1))

    def test_months_alone(self):
        self.check((0, 1, 0), (2026, 1, 1), (2026, 2, 1))
        self.check((0, 11, 0), (2026, 1, 1), (2026, 12, 1))
        self.check((0, 11, 30), (2026, 1, 1), (2026, 12, 31))
        self.check((0, 2, 0), (2026, 11, 15), (2027, 1, 15))
        self.check((0, 1, 30), (2026, 11, 15), (2027, 1, 14))

    def test_years(self):
        self.check((1, 0, 0), (2026, 1, 1), (2027, 1, 1))
        self.check((1, 0, 0), (2025, 12, 31), (2026, 12, 31))
        self.check([(0, 11, 30), (0, 11, 29), (0, 11, 30)], (2025, 12, 31), (2026, 12, 30))
        self.check((1399, 11, 30), (1600, 1, 1), (2999, 12, 31))

    def test_a_month_that_has_not_the_day(self):
        self.check([(0, 1, 0), (0, 0, 28), (0, 1, 0)], (2026, 1, 31), (2026, 2, 28))
        self.check([(0, 1, 1), (0, 1, 0), (0, 1, 1)], (2026, 1, 31), (2026, 3, 1))
        self.check([(0, 1, 30), (0, 1, 29), (0, 1, 30)], (2026, 1, 31), (2026, 3, 30))
        self.check((0, 2, 0), (2026, 1, 31), (2026, 3, 31))
        self.check([(0, 0, 27)] * 3, (2026, 1, 31), (2026, 2, 27))
        self.check([(0, 1, 0), (0, 0, 30), (0, 1, 0)], (2024, 1, 30), (2024, 2, 29))

    def test_from_the_last_day_of_a_shorter_month(self):
        self.check([(0, 1, 0), (0, 1, 0), (0, 0, 28)], (2026, 2, 28), (2026, 3, 28))
        self.check([(0, 1, 2), (0, 1, 2), (0, 0, 30)], (2026, 2, 28), (2026, 3, 30))
        self.check([(0, 1, 3), (0, 1, 3), (0, 1, 0)], (2026, 2, 28), (2026, 3, 31))
        self.check([(1, 0, 0), (1, 0, 0), (0, 11, 28)], (2027, 2, 28), (2028, 2, 28))
        self.check([(1, 0, 1), (1, 0, 1), (1, 0, 0)], (2027, 2, 28), (2028, 2, 29))
        self.check([(0, 1, 0)] * 3, (2024, 2, 28), (2024, 3, 28))

    def test_from_february_29(self):
        self.check([(1, 0, 0), (0, 11, 30), (1, 0, 0)], (2024, 2, 29), (2025, 2, 28))
        self.check([(1, 0, 1), (1, 0, 0), (1, 0, 1)], (2024, 2, 29), (2025, 3, 1))
        self.check((4, 0, 0), (2024, 2, 29), (2028, 2, 29))
        self.check([(3, 11, 30), (3, 11, 30), (3, 11, 28)], (2024, 2, 29), (2028, 2, 28))

    def test_the_months_are_counted_from_the_first_day(self):
        self.check([(1, 0, 28), (1, 0, 27), (1, 0, 28)], (2024, 2, 29), (2025, 3, 28))
        self.check([(1, 1, 0), (1, 1, 0), (1, 0, 29)], (2024, 2, 29), (2025, 3, 29))
        self.check([(1, 1, 2), (1, 1, 2), (1, 1, 0)], (2024, 2, 29), (2025, 3, 31))

    def test_the_other_rules_of_a_way_say_nothing(self):
        told = [week(0, 1, 2, 3, 4, 5), stop((2024, 2, 1), (2026, 3, 1))]
        for counts in (0, 1):
            for rule in range(4):
                found = last_answer(*told, way(counts, rule, 0), between(0, (2024, 1, 15), (2026, 4, 20)))
                self.assertEqual(found, [2, 3, 5, 826])

    def test_each_way_has_its_number(self):
        told = [way(0, 0, 2), way(0, 0, 1), way(0, 0, 0)]
        found = ask(*told, *[between(number, (2026, 2, 28), (2026, 3, 28)) for number in range(3)])
        self.assertEqual(found[3:], [[0, 0, 28, 28], [0, 1, 0, 28], [0, 1, 0, 28]])


class Refusals(unittest.TestCase):
    def test_no_date(self):
        for date in NO_DATES:
            self.assertEqual(by_months(0, date, (2999, 12, 31)), [-1], date)
            self.assertEqual(by_months(0, (1600, 1, 1), date), [-1], date)

    def test_no_such_way(self):
        self.assertEqual(ask(between(0, (2026, 1, 1), (2026, 1, 2))), [[-2]])
        for number in (1, 8, TOP):
            self.assertEqual(last_answer(way(0, 0, 0), between(number, (2026, 1, 1), (2026, 1, 2))), [-2], number)

    def test_the_second_before_the_first(self):
        for first, second in (
            ((2026, 1, 2), (2026, 1, 1)), ((2026, 2, 1), (2026, 1, 31)), ((2026, 1, 1), (2025, 12, 31)),
            ((2999, 12, 31), (1600, 1, 1)),
        ):
            self.assertEqual(by_months(0, first, second), [-3])

    def test_the_first_refusal_told_counts(self):
        self.assertEqual(ask(between(0, (2026, 1, 32), (2025, 1, 1))), [[-1]])
        self.assertEqual(ask(between(0, (2026, 1, 1), (2025, 0, 1))), [[-1]])
        self.assertEqual(by_months(0, (2026, 1, 1), (1599, 12, 31)), [-1])
        self.assertEqual(ask(between(0, (2026, 1, 2), (2026, 1, 1))), [[-2]])

    def test_a_refusal_changes_nothing(self):
        asked = between(0, (2026, 1, 1), (2026, 2, 3))
        refused = [between(0, (2026, 1, 1), (2026, 2, 29)), between(1, (2026, 1, 1), (2026, 1, 1)),
                   between(0, (2026, 1, 1), (2025, 1, 1))]
        self.assertEqual(ask(way(0, 0, 0), asked, *refused, asked, way(0, 0, 0))[1:],
                         [[0, 1, 2, 33], [-1], [-2], [-3], [0, 1, 2, 33], [1]])


if __name__ == "__main__":
    unittest.main()
