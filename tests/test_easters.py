import datetime
import unittest

from tests.helper import ask, begins, clavius, closed, easters, last_answer, rest, yearly

KNOWN = (
    (1600, 4, 2), (1700, 4, 11), (1800, 4, 13), (1818, 3, 22), (1886, 4, 25), (1900, 4, 15), (1943, 4, 25),
    (1954, 4, 18), (1961, 4, 2), (1981, 4, 19), (2000, 4, 23), (2008, 3, 23), (2024, 3, 31), (2025, 4, 20),
    (2026, 4, 5), (2038, 4, 25), (2285, 3, 22),
)


def rest_on(date):
    return rest(date.year, date.month, date.day)


def behind(date, days):
    return date + datetime.timedelta(days)


class Easters(unittest.TestCase):
    def test_how_many_there_are(self):
        self.assertEqual(ask(easters(-2), easters(0), easters(1), easters(1)), [[1], [2], [3], [4]])

    def test_other_kinds_are_not_among_them(self):
        self.assertEqual(ask(yearly(1, 1), closed(2026, 1, 1), easters(0)), [[1], [1], [1]])

    def test_known_easters(self):
        for year, month, day in KNOWN:
            self.assertEqual(last_answer(easters(0), rest(year, month, day)), [1, 6], year)

    def test_easter_of_every_year(self):
        for year in range(1600, 3000):
            day = clavius(year)
            around = [behind(day, days) for days in (-28, -21, -14, -7, -1, 0, 1, 7, 14, 21, 28)]
            found = ask(easters(0), *[rest_on(date) for date in around])[1:]
            self.assertEqual([rests for rests, weekday in found], [0] * 5 + [1] + [0] * 5, year)

    def test_before_on_and_behind(self):
        told = [easters(-47), easters(-2), easters(0), easters(39), easters(60)]
        resting = ((2024, 2, 13), (2024, 3, 29), (2024, 3, 31), (2024, 5, 9), (2024, 5, 30),
                   (2026, 2, 17), (2026, 4, 3), (2026, 4, 5), (2026, 5, 14), (2026, 6, 4))
        for date in resting:
            self.assertEqual(last_answer(*told, rest(*date))[0], 1, date)
        for date in ((2024, 4, 5), (2024, 2, 14), (2026, 3, 31), (2026, 2, 13), (2025, 4, 5), (2026, 4, 6)):
            self.assertEqual(last_answer(*told, rest(*date))[0], 0, date)

    def test_each_number_of_days_in_several_years(self):
        for year in (1600, 1700, 1818, 2000, 2024, 2038, 2900, 2996, 2999):
            for days in range(-60, 61):
                day = behind(clavius(year), days)
                around = [rest_on(behind(day, step)) for step in (-1, 0, 1)]
                found = ask(easters(days), *around)
                self.assertEqual([part[0] for part in found], [1, 0, 1, 0], (year, days))

    def test_how_far_from_easter(self):
        self.assertEqual(ask(easters(60), easters(-60)), [[1], [2]])
        for days in (61, -61, 62, -62, 365, -365, 2147483647, -2147483648):
            self.assertEqual(ask(easters(days)), [[-1]], days)

    def test_forty_are_taken(self):
        found = ask(*[easters(days) for days in range(40)], easters(-2),
                    rest(2026, 4, 3), rest(2026, 4, 5), rest(2026, 5, 14))
        self.assertEqual(found[:40], [[number] for number in range(1, 41)])
        self.assertEqual(found[40:], [[-5], [0, 4], [1, 6], [1, 3]])

    def test_the_first_refusal_told_counts(self):
        self.assertEqual(ask(*[easters(0)] * 40, easters(61), easters(-61), easters(60))[40:], [[-1], [-1], [-5]])

    def test_a_refusal_changes_nothing(self):
        self.assertEqual(ask(easters(0), easters(61), easters(-61), easters(1)), [[1], [-1], [-1], [2]])
        self.assertEqual(last_answer(easters(61), rest(2026, 6, 5)), [0, 4])
        self.assertEqual(ask(*[easters(0)] * 42, begins(), easters(0))[40:], [[-5], [-5], [0], [1]])


if __name__ == "__main__":
    unittest.main()
