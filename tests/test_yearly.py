import unittest

from tests.helper import TOP, ask, begins, closed, easters, last_answer, rest, yearly

LENGTHS = (31, 29, 31, 30, 31, 30, 31, 31, 30, 31, 30, 31)


class Yearly(unittest.TestCase):
    def test_how_many_there_are(self):
        self.assertEqual(ask(yearly(1, 1), yearly(12, 25), yearly(12, 26)), [[1], [2], [3]])

    def test_a_day_told_again_is_one_more(self):
        self.assertEqual(ask(yearly(1, 1), yearly(1, 1)), [[1], [2]])

    def test_other_kinds_are_not_among_them(self):
        self.assertEqual(ask(easters(0), closed(2026, 1, 1), yearly(1, 1)), [[1], [1], [1]])

    def test_rests_in_each_year(self):
        for year, weekday in ((1600, 0), (1999, 5), (2000, 0), (2026, 4), (2999, 2)):
            self.assertEqual(last_answer(yearly(12, 25), rest(year, 12, 25)), [1, weekday])
            self.assertEqual(last_answer(yearly(12, 25), rest(year, 12, 24))[0], 0)
            self.assertEqual(last_answer(yearly(12, 25), rest(year, 12, 26))[0], 0)
            self.assertEqual(last_answer(yearly(12, 25), rest(year, 11, 25))[0], 0)

    def test_month_and_day_are_not_mixed_up(self):
        self.assertEqual(last_answer(yearly(3, 5), rest(2026, 5, 3))[0], 0)
        self.assertEqual(last_answer(yearly(3, 5), rest(2026, 3, 5))[0], 1)

    def test_the_ends_of_each_month(self):
        for month in range(1, 13):
            length = LENGTHS[month - 1]
            self.assertEqual(ask(yearly(month, 1), yearly(month, length)), [[1], [2]])
            self.assertEqual(ask(yearly(month, 0), yearly(month, length + 1)), [[-1], [-1]])

    def test_february_29(self):
        self.assertEqual(ask(yearly(2, 29), yearly(2, 30)), [[1], [-1]])
        for year in (1600, 2000, 2024, 2996):
            self.assertEqual(last_answer(yearly(2, 29), rest(year, 2, 29))[0], 1)
        for year in (1700, 2023, 2900):
            self.assertEqual(last_answer(yearly(2, 29), rest(year, 2, 28))[0], 0)
            self.assertEqual(last_answer(yearly(2, 29), rest(year, 3, 1))[0], 0)

    def test_another_month_or_day(self):
        for month, day in ((0, 1), (13, 1), (TOP, 1), (1, 0), (1, 32), (1, TOP), (0, 0), (TOP, TOP)):
            self.assertEqual(ask(yearly(month, day)), [[-1]], (month, day))

    def test_forty_are_taken(self):
        days = [yearly(1, day) for day in range(1, 32)] + [yearly(3, day) for day in range(1, 10)]
        found = ask(*days, yearly(5, 1), rest(2026, 5, 1), rest(2026, 3, 9), rest(2026, 1, 1))
        self.assertEqual(found[:40], [[number] for number in range(1, 41)])
        self.assertEqual(found[40:], [[-5], [0, 4], [1, 0], [1, 3]])

    def test_the_first_refusal_told_counts(self):
        full = [yearly(1, 1)] * 40
        self.assertEqual(ask(*full, yearly(2, 30), yearly(13, 1), yearly(1, 0), yearly(1, 1))[40:],
                         [[-1], [-1], [-1], [-5]])

    def test_a_refusal_changes_nothing(self):
        self.assertEqual(ask(yearly(1, 1), yearly(2, 30), yearly(0, 1), yearly(1, 2)), [[1], [-1], [-1], [2]])
        self.assertEqual(ask(*[yearly(1, 1)] * 41, yearly(1, 1), begins(), yearly(1, 1))[40:],
                         [[-5], [-5], [0], [1]])


if __name__ == "__main__":
    unittest.main()
