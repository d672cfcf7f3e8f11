import unittest

from tests.helper import TOP, ask, clavius, easter, easters, stop, way, week

KNOWN = (
    (1600, 4, 2), (1700, 4, 11), (1818, 3, 22), (1886, 4, 25), (1943, 4, 25), (1954, 4, 18), (1981, 4, 19),
    (2000, 4, 23), (2008, 3, 23), (2024, 3, 31), (2025, 4, 20), (2026, 4, 5), (2038, 4, 25), (2285, 3, 22),
)


class Easter(unittest.TestCase):
    def test_known_years(self):
        for date in KNOWN:
            self.assertEqual(ask(easter(date[0])), [[0, *date]])

    def test_every_year(self):
        for year in range(1600, 3000, 100):
            found = ask(*[easter(year + past) for past in range(100)])
            days = [clavius(year + past) for past in range(100)]
            self.assertEqual(found, [[0, day.year, day.month, day.day] for day in days])

    def test_other_years(self):
        for year in (0, 1, 1582, 1599, 3000, 3001, 4000, TOP):
            self.assertEqual(ask(easter(year)), [[-1]], year)

    def test_it_changes_nothing_and_nothing_changes_it(self):
        told = [week(6), easters(3), way(0, 1, 0), stop((2026, 4, 1), (2026, 4, 30))]
        self.assertEqual(ask(*told, easter(2026), easter(3000), easter(2026), easters(0))[4:],
                         [[0, 2026, 4, 5], [-1], [0, 2026, 4, 5], [2]])


if __name__ == "__main__":
    unittest.main()
