import unittest

from tests.helper import EDGE_DATES, NO_DATES, ask, begins, closed, easters, last_answer, rest, yearly


class Closed(unittest.TestCase):
    def test_how_many_there_are(self):
        self.assertEqual(ask(closed(2026, 1, 2), closed(2025, 1, 2), closed(2026, 1, 2)), [[1], [2], [3]])

    def test_other_kinds_are_not_among_them(self):
        self.assertEqual(ask(yearly(1, 1), easters(0), closed(2026, 1, 1)), [[1], [1], [1]])

    def test_rests_on_that_single_day(self):
        told = closed(2026, 5, 15)
        self.assertEqual(last_answer(told, rest(2026, 5, 15)), [1, 4])
        for date in ((2026, 5, 14), (2026, 5, 16), (2025, 5, 15), (2027, 5, 15), (2026, 4, 15), (2026, 6, 15)):
            self.assertEqual(last_answer(told, rest(*date))[0], 0, date)

    def test_edge_dates(self):
        for date in EDGE_DATES:
            found = ask(closed(*date), rest(*date))
            self.assertEqual([part[0] for part in found], [1, 1], date)

    def test_no_date(self):
        for date in NO_DATES:
            self.assertEqual(ask(closed(*date)), [[-1]], date)

    def test_forty_are_taken(self):
        days = [closed(2026, 1 + number // 20, 1 + number % 20) for number in range(40)]
        found = ask(*days, closed(2026, 3, 1), rest(2026, 3, 1), rest(2026, 2, 20), rest(2026, 1, 1))
        self.assertEqual(found[:40], [[number] for number in range(1, 41)])
        self.assertEqual(found[40:], [[-5], [0, 6], [1, 4], [1, 3]])

    def test_the_first_refusal_told_counts(self):
        full = [closed(2026, 1, 1)] * 40
        for date in NO_DATES:
            self.assertEqual(ask(*full, closed(*date), closed(2026, 1, 1))[40:], [[-1], [-5]], date)

    def test_a_refusal_changes_nothing(self):
        self.assertEqual(ask(closed(2026, 1, 1), closed(2023, 2, 29), rest(2023, 3, 1), closed(2026, 1, 2)),
                         [[1], [-1], [0, 2], [2]])
        self.assertEqual(ask(*[closed(2026, 1, 1)] * 42, begins(), closed(2026, 1, 1))[40:],
                         [[-5], [-5], [0], [1]])

    def test_each_kind_has_forty_of_its_own(self):
        found = ask(*[yearly(1, 1)] * 40, *[easters(0)] * 40, closed(2026, 1, 1), yearly(1, 1), easters(0))
        self.assertEqual(found[39:], [[40], *[[number] for number in range(1, 41)], [1], [-5], [-5]])


if __name__ == "__main__":
    unittest.main()
