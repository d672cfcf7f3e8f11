import unittest

from tests.helper import (
    DAYS, EDGE_DATES, MONTHS, MOST, NO_DATES, TOP, WEEKS, WORKING_DAYS, YEARS, ask, closed, easters, hole, last,
    last_answer, latest, shifted, stop, told_day, way, week, yearly,
)


def found_by(told, date, unit, number, counts=0, rule=0, months=0):
    return last_answer(*told, way(counts, rule, months), latest(0, date, unit, number))


class LatestCase(unittest.TestCase):
    def check(self, event, *given, **named):
        self.assertEqual(found_by(*given, **named), told_day(event), (given, named))


class Latest(LatestCase):
    def test_the_day_of_the_week_then_the_date(self):
        self.assertEqual(ask(way(0, 0, 0), latest(0, (2026, 1, 20), DAYS, 10)), [[0], [5, 2026, 1, 10]])

    def test_every_unit(self):
        for unit, number, event in (
            (DAYS, 1, (2026, 1, 19)), (DAYS, 10, (2026, 1, 10)), (WEEKS, 1, (2026, 1, 13)), (WEEKS, 3, (2025, 12, 30)),
            (MONTHS, 1, (2025, 12, 20)), (MONTHS, 14, (2024, 11, 20)), (YEARS, 1, (2025, 1, 20)),
            (YEARS, 26, (2000, 1, 20)),
        ):
            self.check(event, [], (2026, 1, 20), unit, number)
            self.check(shifted(event, 1), [], (2026, 1, 20), unit, number, counts=1)

    def test_the_greatest_numbers(self):
        for unit, event in (
            (DAYS, shifted((2999, 12, 31), -9999)), (WEEKS, shifted((2999, 12, 31), -6993)),
            (MONTHS, (2916, 9, 30)), (YEARS, (2900, 12, 31)),
        ):
            self.check(event, [], (2999, 12, 31), unit, MOST[unit])
            self.assertEqual(found_by([], (2999, 12, 31), unit, MOST[unit] + 1), [-1])

    def test_lengths_about_401_days(self):
        for number in (398, 399, 400, 401, 402, 403, 800):
            self.check(shifted((2026, 1, 20), -number), [], (2026, 1, 20), DAYS, number)
            self.check(shifted((2026, 1, 20), 1 - number), [], (2026, 1, 20), DAYS, number, counts=1)

    def test_the_month_rules(self):
        for date, events in (
            ((2026, 2, 28), ((2026, 1, 31), (2026, 1, 28), (2026, 1, 31))),
            ((2026, 2, 27), ((2026, 1, 27), (2026, 1, 27), (2026, 1, 27))),
            ((2024, 2, 28), ((2024, 1, 28), (2024, 1, 28), (2024, 1, 28))),
            ((2026, 3, 1), ((2026, 2, 1), (2026, 2, 1), (2026, 2, 1))),
            ((2026, 3, 30), ((2026, 2, 28), (2026, 2, 28), (2026, 2, 27))),
            ((2026, 3, 31), ((2026, 2, 28), (2026, 2, 28), (2026, 2, 28))),
            ((2026, 4, 30), ((2026, 3, 31), (2026, 3, 30), (2026, 3, 31))),
        ):
            for months, event in enumerate(events):
                self.check(event, [], date, MONTHS, 1, months=months)

    def test_the_rules_for_days_of_rest(self):
        told = [week(5, 6)]
        for date, events in (
            ((2026, 1, 16), ((2026, 1, 9), (2026, 1, 9), (2026, 1, 11), (2026, 1, 9))),
            ((2026, 1, 17), ((2026, 1, 10), (2026, 1, 9), (2026, 1, 11), (2026, 1, 9))),
            ((2026, 1, 18), ((2026, 1, 11), (2026, 1, 9), (2026, 1, 11), (2026, 1, 9))),
            ((2026, 1, 19), ((2026, 1, 12), (2026, 1, 12), (2026, 1, 12), (2026, 1, 12))),
            ((2026, 1, 30), ((2026, 1, 23), (2026, 1, 23), (2026, 1, 25), (2026, 1, 24))),
            ((2026, 2, 1), ((2026, 1, 25), (2026, 1, 23), (2026, 1, 25), (2026, 1, 24))),
        ):
            for rule, event in enumerate(events):
                self.check(event, told, date, WEEKS, 1, rule=rule)

    def test_not_behind_the_date(self):
        told = [week(5, 6)]
        self.check((2026, 1, 17), told, (2026, 1, 17), DAYS, 1, counts=1, rule=2)
        self.check((2026, 1, 16), told, (2026, 1, 16), DAYS, 1, counts=1, rule=2)
        told = [closed(2026, 1, day) for day in range(5, 25)]
        self.check((2026, 1, 10), told, (2026, 1, 10), DAYS, 5, rule=2)
        self.check((2026, 1, 4), told, (2026, 1, 4), DAYS, 20, rule=2)

    def test_the_last_one_of_several(self):
        told = [yearly(1, day) for day in range(10, 20)]
        self.check((2026, 1, 14), told, (2026, 1, 20), WEEKS, 1, rule=3, counts=1)
        self.check((2026, 1, 13), told, (2026, 1, 20), WEEKS, 1, rule=1)
        self.check((2026, 1, 2), told, (2026, 1, 19), WEEKS, 1, rule=1)
        self.check((2026, 1, 9), told, (2026, 1, 9), DAYS, 10, rule=2)

    def test_nothing_is_stopped(self):
        told = [stop((2026, 1, 5), (2026, 1, 15)), stop((2026, 1, 20), (2999, 12, 31))]
        self.check((2026, 1, 10), told, (2026, 1, 20), DAYS, 10)
        self.check((2025, 12, 20), told, (2026, 1, 20), MONTHS, 1)
        found = ask(*told, way(0, 0, 0), latest(0, (2026, 1, 19), DAYS, 4), last(0, (2026, 1, 15), DAYS, 4),
                    last(0, (2026, 1, 14), DAYS, 4), stop((2026, 1, 1), (2026, 1, 1)))
        self.assertEqual(found[3:], [told_day((2026, 1, 15)), told_day((2026, 1, 19)), told_day((2026, 1, 19)), [-3]])

    def test_ends_beyond_the_last_year_come_back(self):
        self.check((2999, 12, 24), [], (2999, 12, 31), WEEKS, 1)
        self.check((2999, 12, 25), [yearly(1, 1)], (2999, 12, 31), WEEKS, 1, rule=2)
        self.check((2999, 12, 24), [yearly(1, 1)], (2999, 12, 31), WEEKS, 1, rule=1)

    def test_an_event_without_an_end_is_none(self):
        told = hole((2026, 1, 11), 57)
        self.check((2026, 1, 2), told, (2027, 2, 13), DAYS, 2, rule=1)
        self.check((2027, 2, 12), told, (2027, 2, 14), DAYS, 2, rule=1)
        self.check((2026, 1, 2), told, (2026, 1, 8), DAYS, 2, rule=3)
        self.check((2026, 1, 8), told, (2026, 1, 8), DAYS, 2, rule=2)
        self.check((2027, 1, 29), told, (2027, 2, 13), DAYS, 2, rule=3)

    def test_ends_that_come_back_399_days(self):
        # By the rule all ends from December 29, 2024 to February 1, 2026 come to the first of these days.
        told = hole((2025, 1, 5), 57)
        for unit, event in (
            (DAYS, shifted((2026, 2, 1), -9999)), (WEEKS, shifted((2026, 2, 1), -6993)), (MONTHS, (1942, 11, 1)),
            (YEARS, (1927, 2, 1)),
        ):
            self.check(event, told, (2024, 12, 29), unit, MOST[unit], rule=2)
            self.check(shifted(event, 1), told, (2024, 12, 29), unit, MOST[unit], rule=2, counts=1)
        self.check((2024, 12, 28), told, (2024, 12, 28), DAYS, 1, counts=1, rule=2)

    def test_far_back(self):
        told = hole((2998, 7, 1), 79)
        self.check((2915, 3, 24), told, (2999, 12, 31), MONTHS, 999, rule=1)
        found = ask(*told, way(0, 1, 0), *[last(0, event, MONTHS, 999) for event in (
            (2915, 3, 24), (2915, 3, 25), (2915, 9, 30), (2916, 9, 30))])
        self.assertEqual(found[-4:], [told_day((2998, 6, 24)), [-7], [-6], [-6]])


class TheBeginning(LatestCase):
    def test_the_first_day(self):
        self.check((1600, 1, 1), [], (1600, 1, 11), DAYS, 10)
        self.check((1600, 1, 1), [], (1600, 1, 10), DAYS, 10, counts=1)
        self.check((1600, 1, 1), [], (1699, 1, 1), YEARS, 99)
        self.check((1600, 1, 1), [], shifted((1600, 1, 1), 9999), DAYS, 9999)

    def test_none_is_one(self):
        self.assertEqual(found_by([], (1600, 1, 10), DAYS, 10), [-7])
        self.assertEqual(found_by([], (1600, 1, 9), DAYS, 10, counts=1), [-7])
        self.assertEqual(found_by([], (1600, 1, 1), DAYS, 1), [-7])
        self.assertEqual(found_by([], (1698, 12, 31), YEARS, 99), [-7])
        for unit in (DAYS, WEEKS, MONTHS, YEARS):
            self.assertEqual(found_by([], (1600, 1, 1), unit, MOST[unit]), [-7])
            self.assertEqual(found_by([], (1602, 1, 1), unit, MOST[unit]), [-7])

    def test_days_of_rest(self):
        self.assertEqual(found_by([week(5)], (1600, 1, 1), DAYS, 1, counts=1, rule=1), [-7])
        self.assertEqual(found_by([week(5)], (1600, 1, 1), DAYS, 1, counts=1, rule=2), [-7])
        self.check((1600, 1, 1), [week(6)], (1600, 1, 1), DAYS, 1, rule=2)

    def test_every_edge_date(self):
        for date in EDGE_DATES:
            self.check(date, [], date, DAYS, 1, counts=1)


class Refusals(unittest.TestCase):
    def test_no_date(self):
        for date in NO_DATES:
            self.assertEqual(found_by([], date, DAYS, 1), [-1], date)

    def test_working_days(self):
        for number in (0, 1, 999, 1000, TOP):
            self.assertEqual(found_by([], (2026, 1, 20), WORKING_DAYS, number), [-1], number)

    def test_units_and_numbers(self):
        for unit in range(4):
            for number in (0, MOST[unit] + 1, TOP):
                self.assertEqual(found_by([], (2026, 1, 20), unit, number), [-1], (unit, number))
        for unit in (5, TOP):
            self.assertEqual(found_by([], (2026, 1, 20), unit, 1), [-1], unit)

    def test_no_such_way(self):
        self.assertEqual(ask(latest(0, (2026, 1, 20), DAYS, 1)), [[-2]])
        for number in (1, 8, TOP):
            self.assertEqual(last_answer(way(0, 0, 0), latest(number, (2026, 1, 20), DAYS, 1)), [-2], number)

    def test_the_first_refusal_told_counts(self):
        for asked in (latest(0, (2026, 1, 32), DAYS, 1), latest(0, (2026, 1, 20), WORKING_DAYS, 1),
                      latest(TOP, (2026, 1, 20), 5, 1), latest(0, (2026, 1, 20), DAYS, 0)):
            self.assertEqual(ask(asked), [[-1]])
        self.assertEqual(ask(latest(0, (1600, 1, 1), DAYS, 9999)), [[-2]])

    def test_a_refusal_changes_nothing(self):
        told = [week(5, 6), easters(1), way(0, 1, 0)]
        asked = latest(0, (2026, 1, 18), WEEKS, 1)
        refused = [latest(0, (2026, 1, 18), WORKING_DAYS, 1), latest(1, (2026, 1, 18), WEEKS, 1),
                   latest(0, (1600, 1, 1), WEEKS, 1)]
        self.assertEqual(ask(*told, asked, *refused, asked, way(0, 0, 0))[3:],
                         [told_day((2026, 1, 9)), [-1], [-2], [-7], told_day((2026, 1, 9)), [1]])


if __name__ == "__main__":
    unittest.main()
