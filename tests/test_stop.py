import unittest

from tests.helper import EDGE_DATES, NO_DATES, ask, begins, closed, last_answer, rest, stop, yearly


def one_day(date):
    return stop(date, date)


FULL = [one_day((2000 + number, 6, 1)) for number in range(20)]


class Stop(unittest.TestCase):
    def test_how_many_there_are(self):
        self.assertEqual(ask(stop((2026, 1, 1), (2026, 1, 31)), stop((2026, 3, 1), (2027, 3, 1))), [[1], [2]])

    def test_one_day(self):
        self.assertEqual(ask(one_day((2026, 1, 1)), one_day((2026, 1, 2)), one_day((2026, 1, 2))), [[1], [2], [-3]])
        for date in EDGE_DATES:
            self.assertEqual(ask(one_day(date)), [[1]], date)

    def test_from_the_first_day_to_the_last(self):
        self.assertEqual(ask(stop((1600, 1, 1), (2999, 12, 31)), one_day((2999, 12, 31))), [[1], [-3]])

    def test_no_date(self):
        for date in NO_DATES:
            self.assertEqual(ask(stop(date, (2999, 12, 31))), [[-1]], date)
            self.assertEqual(ask(stop((1600, 1, 1), date)), [[-1]], date)
            self.assertEqual(ask(one_day(date)), [[-1]], date)

    def test_the_second_before_the_first(self):
        for first, second in (
            ((2026, 1, 2), (2026, 1, 1)), ((2026, 2, 1), (2026, 1, 31)), ((2026, 1, 1), (2025, 12, 31)),
            ((2000, 3, 1), (2000, 2, 29)), ((2999, 12, 31), (1600, 1, 1)),
        ):
            self.assertEqual(ask(stop(first, second)), [[-3]])
            self.assertEqual(ask(stop(second, first)), [[1]])

    def test_the_first_not_behind_all_stops(self):
        told = stop((2026, 2, 1), (2026, 2, 28))
        for first in ((2026, 2, 28), (2026, 2, 15), (2026, 2, 1), (2026, 1, 31), (1600, 1, 1)):
            self.assertEqual(ask(told, stop(first, (2026, 3, 31))), [[1], [-3]], first)
        self.assertEqual(ask(told, stop((2026, 1, 1), (2026, 1, 31))), [[1], [-3]])
        self.assertEqual(ask(told, stop((2026, 3, 1), (2026, 3, 31))), [[1], [2]])

    def test_behind_all_stops_and_not_only_the_first(self):
        told = [stop((2026, 1, 1), (2026, 1, 31)), stop((2026, 3, 1), (2026, 3, 31))]
        self.assertEqual(ask(*told, one_day((2026, 2, 10)), one_day((2026, 3, 31)), one_day((2026, 4, 1))),
                         [[1], [2], [-3], [-3], [3]])

    def test_twenty_are_taken(self):
        found = ask(*FULL, one_day((2026, 1, 1)))
        self.assertEqual(found, [*[[number] for number in range(1, 21)], [-5]])

    def test_no_date_is_told_before_the_order(self):
        told = stop((2026, 2, 1), (2026, 2, 28))
        for first, second in (
            ((2023, 2, 29), (2023, 1, 1)), ((3000, 1, 1), (2999, 1, 1)), ((2027, 1, 1), (1599, 12, 31)),
            ((2026, 2, 1), (2026, 2, 29)), ((1600, 1, 0), (2027, 1, 1)),
        ):
            self.assertEqual(ask(told, stop(first, second)), [[1], [-1]])

    def test_no_date_is_told_before_too_many(self):
        for date in NO_DATES:
            self.assertEqual(last_answer(*FULL, stop(date, (2999, 12, 31))), [-1], date)
            self.assertEqual(last_answer(*FULL, stop((2026, 1, 1), date)), [-1], date)

    def test_the_order_is_told_before_too_many(self):
        self.assertEqual(last_answer(*FULL, stop((2026, 1, 2), (2026, 1, 1))), [-3])
        self.assertEqual(last_answer(*FULL, one_day((2019, 6, 1))), [-3])
        self.assertEqual(last_answer(*FULL, one_day((2019, 6, 2))), [-5])

    def test_all_three_at_once(self):
        self.assertEqual(last_answer(*FULL, stop((2010, 13, 1), (2009, 1, 1))), [-1])

    def test_a_refusal_changes_nothing(self):
        told = one_day((2026, 1, 1))
        behind = one_day((2026, 1, 2))
        for refused in (
            stop((2026, 6, 1), (2026, 6, 31)), stop((2026, 6, 2), (2026, 6, 1)), stop((2026, 1, 1), (2026, 6, 1)),
        ):
            self.assertEqual(ask(told, refused, behind)[2], [2])
        self.assertEqual(ask(*FULL, one_day((2999, 12, 31)), one_day((2026, 1, 1)), begins(), told)[20:],
                         [[-5], [-5], [0], [1]])

    def test_stopped_days_do_not_rest(self):
        self.assertEqual(last_answer(stop((2026, 1, 1), (2026, 1, 31)), rest(2026, 1, 15)), [0, 3])
        self.assertEqual(ask(yearly(1, 1), closed(2026, 1, 1), one_day((2026, 1, 1))), [[1], [1], [1]])


if __name__ == "__main__":
    unittest.main()
