import unittest

from tests.helper import (
    DAYS, EDGE_DATES, MONTHS, MOST, NO_DATES, TOP, WEEKS, WORKING_DAYS, YEARS, ask, begins, closed, easters, hole, last,
    last_answer, rest, shifted, stop, told_day, way, week, yearly,
)

SATURDAY = (2026, 1, 10)


def ends(told, event, unit, number, counts=0, rule=0, months=0):
    return last_answer(*told, way(counts, rule, months), last(0, event, unit, number))


class LastCase(unittest.TestCase):
    def check(self, date, *given, **named):
        self.assertEqual(ends(*given, **named), told_day(date), (given, named))

    def check_rules(self, dates, told, event, unit, number, counts=0):
        """A date is the last day by the rule of its place; a number is a refusal."""
        expected = [told_day(date) if isinstance(date, tuple) else [date] for date in dates]
        found = [ends(told, event, unit, number, counts, rule) for rule in range(4)]
        self.assertEqual(found, expected, (event, unit, number))


class Units(LastCase):
    def test_the_day_of_the_week_then_the_date(self):
        self.assertEqual(ask(way(0, 0, 0), last(0, SATURDAY, DAYS, 10)), [[0], [1, 2026, 1, 20]])

    def test_the_event_does_not_count(self):
        for unit, number, date in (
            (DAYS, 1, (2026, 1, 11)), (DAYS, 10, (2026, 1, 20)), (WEEKS, 1, (2026, 1, 17)), (WEEKS, 3, (2026, 1, 31)),
            (MONTHS, 1, (2026, 2, 10)), (MONTHS, 12, (2027, 1, 10)), (YEARS, 1, (2027, 1, 10)),
            (YEARS, 10, (2036, 1, 10)), (WORKING_DAYS, 1, (2026, 1, 11)), (WORKING_DAYS, 10, (2026, 1, 20)),
        ):
            self.check(date, [], SATURDAY, unit, number)

    def test_the_event_counts(self):
        for unit, number, date in (
            (DAYS, 1, (2026, 1, 10)), (DAYS, 10, (2026, 1, 19)), (WEEKS, 1, (2026, 1, 16)), (WEEKS, 3, (2026, 1, 30)),
            (MONTHS, 1, (2026, 2, 9)), (MONTHS, 12, (2027, 1, 9)), (YEARS, 1, (2027, 1, 9)),
            (YEARS, 10, (2036, 1, 9)), (WORKING_DAYS, 1, (2026, 1, 10)), (WORKING_DAYS, 10, (2026, 1, 19)),
        ):
            self.check(date, [], SATURDAY, unit, number, counts=1)

    def test_the_greatest_numbers(self):
        for unit, date in (
            (DAYS, shifted((2000, 1, 1), 9999)), (WEEKS, shifted((2000, 1, 1), 6993)), (MONTHS, (2083, 4, 1)),
            (YEARS, (2099, 1, 1)), (WORKING_DAYS, shifted((2000, 1, 1), 999)),
        ):
            self.check(date, [], (2000, 1, 1), unit, MOST[unit])
            self.assertEqual(ends([], (2000, 1, 1), unit, MOST[unit] + 1), [-1])

    def test_the_first_day_that_may_be_told(self):
        self.check((1600, 1, 1), [], (1600, 1, 1), DAYS, 1, counts=1)
        self.check((1600, 1, 2), [], (1600, 1, 1), DAYS, 1)
        self.check((1601, 1, 1), [], (1600, 1, 1), YEARS, 1)

    def test_every_edge_date(self):
        for date in EDGE_DATES:
            self.check(date, [], date, DAYS, 1, counts=1)

    def test_the_first_and_the_last_day_of_every_year(self):
        for year in range(1600, 3000):
            dates = [(year, 1, 1), (year, 12, 31)]
            found = ask(way(1, 0, 0), *[last(0, date, DAYS, 1) for date in dates])
            self.assertEqual(found[1:], [told_day(date) for date in dates])

    def test_across_leap_days(self):
        self.check((2024, 3, 1), [], (2024, 2, 28), DAYS, 2)
        self.check((2023, 3, 2), [], (2023, 2, 28), DAYS, 2)
        self.check((1700, 3, 1), [], (1700, 2, 28), DAYS, 1)
        self.check((2000, 2, 29), [], (2000, 2, 28), DAYS, 1)

    def test_each_way_has_its_number(self):
        told = [way(0, 0, 0), way(1, 0, 0), way(0, 0, 1)]
        found = ask(*told, *[last(number, (2026, 1, 31), MONTHS, 1) for number in range(3)])
        self.assertEqual(found[3:], [told_day((2026, 2, 28)), told_day((2026, 2, 27)), told_day((2026, 3, 1))])

    def test_asking_changes_nothing(self):
        asked = last(0, SATURDAY, WORKING_DAYS, 10)
        found = ask(week(5, 6), stop((2026, 1, 12), (2026, 1, 13)), way(0, 0, 0), asked, asked, rest(2026, 1, 12),
                    yearly(1, 1), stop((2026, 1, 14), (2026, 1, 14)), way(0, 0, 0))
        self.assertEqual(found[3:], [told_day((2026, 1, 27)), told_day((2026, 1, 27)), [0, 0], [1], [2], [1]])

    def test_what_is_told_later_counts_from_then_on(self):
        asked = last(0, SATURDAY, DAYS, 1)
        found = ask(way(0, 1, 0), asked, week(6), asked, closed(2026, 1, 12), asked, week(), asked)
        self.assertEqual(found[1::2], [told_day((2026, 1, day)) for day in (11, 12, 13, 11)])


class MonthRules(LastCase):
    def check_months(self, dates, event, unit, number):
        for months, date in enumerate(dates):
            self.check(date, [], event, unit, number, months=months)
            self.check(shifted(date, -1), [], event, unit, number, counts=1, months=months)

    def test_a_month_that_has_not_the_day(self):
        self.check_months(((2026, 2, 28), (2026, 3, 1), (2026, 2, 28)), (2026, 1, 31), MONTHS, 1)
        self.check_months(((2026, 2, 28), (2026, 3, 1), (2026, 2, 28)), (2026, 1, 29), MONTHS, 1)
        self.check_months(((2024, 2, 29), (2024, 3, 1), (2024, 2, 29)), (2024, 1, 30), MONTHS, 1)
        self.check_months(((2026, 4, 30), (2026, 5, 1), (2026, 4, 30)), (2025, 12, 31), MONTHS, 4)
        self.check_months(((2025, 2, 28), (2025, 3, 1), (2025, 2, 28)), (2024, 2, 29), YEARS, 1)
        self.check_months(((2100, 2, 28), (2100, 3, 1), (2100, 2, 28)), (2096, 2, 29), YEARS, 4)

    def test_a_month_that_has_the_day(self):
        self.check_months(((2026, 2, 28),) * 3, (2026, 1, 28), MONTHS, 1)
        self.check_months(((2024, 2, 29),) * 3, (2024, 1, 29), MONTHS, 1)
        self.check_months(((2026, 3, 31),) * 3, (2026, 1, 31), MONTHS, 2)
        self.check_months(((2028, 2, 29),) * 3, (2024, 2, 29), YEARS, 4)
        self.check_months(((2026, 5, 29),) * 3, (2026, 4, 29), MONTHS, 1)

    def test_from_the_last_day_of_a_shorter_month(self):
        self.check_months(((2026, 3, 28), (2026, 3, 28), (2026, 3, 31)), (2026, 2, 28), MONTHS, 1)
        self.check_months(((2026, 5, 30), (2026, 5, 30), (2026, 5, 31)), (2026, 4, 30), MONTHS, 1)
        self.check_months(((2028, 2, 28), (2028, 2, 28), (2028, 2, 29)), (2025, 2, 28), YEARS, 3)
        self.check_months(((2024, 3, 28),) * 3, (2024, 2, 28), MONTHS, 1)

    def test_across_the_year(self):
        self.check_months(((2027, 2, 15),) * 3, (2026, 11, 15), MONTHS, 3)
        self.check_months(((2026, 12, 15),) * 3, (2026, 11, 15), MONTHS, 1)
        self.check_months(((2027, 1, 15),) * 3, (2026, 12, 15), MONTHS, 1)
        self.check_months(((2026, 12, 30), (2026, 12, 30), (2026, 12, 31)), (2026, 11, 30), MONTHS, 1)
        self.check_months(((2027, 2, 28), (2027, 3, 1), (2027, 2, 28)), (2026, 12, 31), MONTHS, 2)
        self.check_months(((2109, 4, 30), (2109, 5, 1), (2109, 4, 30)), (2026, 1, 31), MONTHS, 999)


class RestRules(LastCase):
    def test_an_end_on_no_day_of_rest(self):
        self.check_rules([(2026, 1, 20)] * 4, [week(5, 6)], SATURDAY, DAYS, 10)
        self.check_rules([(2026, 1, 17)] * 4, [], SATURDAY, WEEKS, 1)

    def test_within_the_month(self):
        self.check_rules([(2026, 1, 17), (2026, 1, 19), (2026, 1, 16), (2026, 1, 19)], [week(5, 6)], SATURDAY, WEEKS, 1)
        self.check_rules([(2026, 1, 18), (2026, 1, 19), (2026, 1, 16), (2026, 1, 19)], [week(5, 6)], SATURDAY, DAYS, 8)

    def test_the_next_one_in_another_month(self):
        self.check_rules([(2026, 1, 31), (2026, 2, 2), (2026, 1, 30), (2026, 1, 30)], [week(5, 6)], SATURDAY, WEEKS, 3)
        told = [closed(2025, 12, 31)]
        self.check_rules([(2025, 12, 31), (2026, 1, 1), (2025, 12, 30), (2025, 12, 30)], told, (2025, 12, 1), DAYS, 30)

    def test_the_next_one_in_the_same_month_of_another_year(self):
        sundays = [shifted((2026, 1, 11), 7 * number) for number in range(51)]
        easter = (2026, 4, 5)
        near = [shifted(easter, 7 * number) for number in range(-8, 9)]
        told = [week(0, 1, 2, 3, 4, 5), *[easters(7 * number) for number in range(-8, 9)],
                *[closed(*date) for date in sundays if date not in near]]
        self.check_rules([(2026, 1, 10), (2027, 1, 3), (2026, 1, 4), (2026, 1, 4)], told, (2026, 1, 9), DAYS, 1)

    def test_every_sort_of_day_of_rest(self):
        for told, date in (
            ([week(2)], (2026, 1, 21)), ([yearly(2, 29)], (2024, 2, 29)), ([easters(1)], (2026, 4, 6)),
            ([easters(-60)], (2026, 2, 4)), ([closed(2026, 5, 5)], (2026, 5, 5)),
        ):
            self.check(date, told, shifted(date, -7), WEEKS, 1)
            self.check(shifted(date, 1), told, shifted(date, -7), WEEKS, 1, rule=1)
            self.check(shifted(date, -1), told, shifted(date, -7), WEEKS, 1, rule=2)

    def test_at_the_turn_of_every_year(self):
        for year in range(1600, 2999):
            told = [closed(year, 12, 31), closed(year + 1, 1, 1)]
            self.check_rules([(year, 12, 31), (year + 1, 1, 2), (year, 12, 30), (year, 12, 30)], told,
                             (year, 12, 31), DAYS, 1, counts=1)

    def test_an_end_that_falls_before_the_event(self):
        told = [closed(2026, 1, day) for day in range(5, 20)]
        self.check((2026, 1, 4), told, (2026, 1, 10), DAYS, 3, rule=2)

    def test_the_event_on_a_day_of_rest_says_nothing(self):
        self.check_rules([(2026, 1, 12)] * 4, [week(5, 6)], SATURDAY, DAYS, 2)

    def test_399_days_on(self):
        told = hole((2026, 1, 11), 57)
        self.check((2027, 2, 14), told, (2026, 1, 1), DAYS, 10, rule=1)
        self.assertEqual(shifted((2026, 1, 11), 399), (2027, 2, 14))
        self.assertEqual(ends(told, (2026, 1, 1), DAYS, 9, rule=1), [-7])
        self.check((2027, 2, 14), told, (2026, 1, 1), DAYS, 11, rule=1)

    def test_399_days_back(self):
        told = hole((2025, 1, 5), 57)
        self.check((2024, 12, 29), told, (2026, 1, 22), DAYS, 10, rule=2)
        self.assertEqual(shifted((2024, 12, 29), 399), (2026, 2, 1))
        self.check((2024, 12, 29), told, (2026, 1, 22), DAYS, 9, rule=2)
        self.check((2026, 2, 8), told, (2026, 1, 22), DAYS, 11, rule=1)
        self.assertEqual(ends(told, (2026, 1, 22), DAYS, 11, rule=2), [-7])

    def test_rule_3_399_days_away(self):
        told = hole((2025, 1, 5), 57)
        self.check_rules([(2026, 2, 1), (2026, 2, 8), (2024, 12, 29), (2026, 2, 8)], told, (2026, 1, 22), DAYS, 10)
        self.check_rules([(2026, 1, 31), (2026, 2, 8), (2024, 12, 29), (2024, 12, 29)], told, (2026, 1, 22), DAYS, 9)

    def test_no_next_one_is_no_end_by_rules_1_and_3(self):
        self.check_rules([(2026, 1, 10), -7, (2026, 1, 4), -7], hole((2026, 1, 11), 57), (2026, 1, 1), DAYS, 9)

    def test_none_before_is_no_end_by_rules_2_and_3(self):
        told = hole((2025, 1, 5), 58)
        self.check_rules([(2026, 2, 8), (2026, 2, 15), -7, (2026, 2, 15)], told, (2026, 1, 22), DAYS, 17)
        told = hole((2025, 1, 19), 58)
        self.check_rules([(2026, 2, 22), (2026, 3, 1), -7, -7], told, (2026, 1, 22), DAYS, 31)

    def test_nothing_is_looked_for_before_the_first_day(self):
        self.check_rules([(1600, 1, 1), (1600, 1, 2), -7, (1600, 1, 2)], [week(5)], (1600, 1, 1), DAYS, 1, counts=1)
        self.check_rules([(1600, 1, 2), (1600, 1, 3), (1600, 1, 1), (1600, 1, 3)], [week(6)], (1600, 1, 1), DAYS, 1)
        told = [closed(1600, 1, day) for day in range(1, 32)]
        self.check_rules([(1600, 1, 15), (1600, 2, 1), -7, -7], told, (1600, 1, 10), DAYS, 5)


class Beyond(LastCase):
    def test_the_last_day_and_the_next_one(self):
        self.check((2999, 12, 31), [], (2999, 12, 30), DAYS, 1)
        self.check((2999, 12, 31), [], (2999, 12, 31), DAYS, 1, counts=1)
        self.assertEqual(ends([], (2999, 12, 31), DAYS, 1), [-6])

    def test_every_unit(self):
        for unit, event in (
            (DAYS, (2999, 12, 25)), (WEEKS, (2999, 12, 25)), (MONTHS, (2999, 12, 1)), (YEARS, (2999, 1, 1)),
            (WORKING_DAYS, (2999, 12, 31)),
        ):
            for number in (7, MOST[unit]):
                self.assertEqual(ends([], event, unit, number), [-6])
        self.check((2999, 12, 31), [], (2900, 12, 31), YEARS, 99)
        self.assertEqual(ends([], (2901, 1, 1), YEARS, 99), [-6])
        self.check((2999, 12, 31), [], (2901, 1, 1), YEARS, 99, counts=1)

    def test_a_day_of_rest_at_the_end(self):
        self.check_rules([(2999, 12, 31), -6, (2999, 12, 30), (2999, 12, 30)], [week(1)], (2999, 12, 1), DAYS, 30)

    def test_days_rest_beyond_too(self):
        for told in (week(2), yearly(1, 1)):
            self.check_rules([-6, -6, (2999, 12, 31), -6], [told], (2999, 12, 1), DAYS, 31)
        self.check_rules([-6, -6, -6, -6], [closed(2999, 12, 31)], (2999, 12, 1), DAYS, 31)

    def test_easter_beyond(self):
        # Easter of 3000 is on April 13: its eight Sundays before rest, and so do those from January 5 on.
        told = [week(0, 1, 2, 3, 4, 5), *[easters(-7 * number) for number in range(9)],
                *[yearly(*date) for date in ((1, 5), (1, 12), (1, 19), (1, 26), (2, 2), (2, 9))]]
        self.check_rules([-6, -6, (2999, 12, 29), -6], told, (2999, 12, 31), DAYS, 103)
        self.check_rules([-6, -6, -6, -6], told, (2999, 12, 31), DAYS, 110)

    def test_no_end_is_told_before_beyond(self):
        # No Sunday of the 57 from January 5, 3000 on is free: 17 lie round Easter, 40 are told by month and day.
        sundays = [shifted((3000, 1, 5), 7 * number) for number in range(57)]
        near = [shifted((3000, 4, 13), 7 * number) for number in range(-8, 9)]
        told = [week(0, 1, 2, 3, 4, 5), *[easters(7 * number) for number in range(-8, 9)],
                *[yearly(*date[1:]) for date in sundays if date not in near]]
        self.check_rules([-6, -7, (2999, 12, 29), -7], told, (2999, 12, 31), DAYS, 4)
        self.check_rules([-6, -6, (2999, 12, 29), (2999, 12, 29)], told[:-1], (2999, 12, 31), DAYS, 4)

    def test_working_days(self):
        self.check((2999, 12, 31), [week(5, 6)], (2999, 12, 27), WORKING_DAYS, 2)
        self.assertEqual(ends([week(5, 6)], (2999, 12, 27), WORKING_DAYS, 3), [-6])
        self.assertEqual(ends([week(1)], (2999, 12, 30), WORKING_DAYS, 1), [-6])


class Stops(LastCase):
    def test_days_that_are_stopped_do_not_count(self):
        for first, second, date in (
            ((2026, 1, 12), (2026, 1, 14), (2026, 1, 18)), ((2026, 1, 15), (2026, 1, 15), (2026, 1, 16)),
            ((2026, 1, 11), (2026, 1, 11), (2026, 1, 16)), ((2026, 1, 16), (2026, 1, 30), (2026, 1, 15)),
            ((2026, 1, 1), (2026, 1, 10), (2026, 1, 15)), ((2026, 1, 1), (2026, 1, 11), (2026, 1, 16)),
            ((2026, 1, 5), (2026, 1, 12), (2026, 1, 17)), ((2026, 1, 1), (2026, 1, 31), (2026, 2, 5)),
            ((1600, 1, 1), (2026, 1, 10), (2026, 1, 15)), ((2026, 1, 15), (2026, 2, 28), (2026, 3, 1)),
        ):
            self.check(date, [stop(first, second)], SATURDAY, DAYS, 5)

    def test_when_the_event_counts(self):
        for first, second, date in (
            ((2026, 1, 12), (2026, 1, 14), (2026, 1, 17)), ((2026, 1, 10), (2026, 1, 10), (2026, 1, 15)),
            ((2026, 1, 1), (2026, 1, 9), (2026, 1, 14)), ((2026, 1, 1), (2026, 1, 10), (2026, 1, 15)),
            ((2026, 1, 15), (2026, 1, 16), (2026, 1, 14)), ((2026, 1, 14), (2026, 1, 16), (2026, 1, 17)),
        ):
            self.check(date, [stop(first, second)], SATURDAY, DAYS, 5, counts=1)

    def test_several_stops(self):
        first = stop((2026, 1, 12), (2026, 1, 14))
        self.check((2026, 1, 20), [first, stop((2026, 1, 16), (2026, 1, 17))], SATURDAY, DAYS, 5)
        self.check((2026, 1, 20), [first, stop((2026, 1, 18), (2026, 1, 19))], SATURDAY, DAYS, 5)
        self.check((2026, 1, 18), [first, stop((2026, 1, 19), (2026, 1, 20))], SATURDAY, DAYS, 5)
        self.check((2026, 1, 20), [first, stop((2026, 1, 15), (2026, 1, 16))], SATURDAY, DAYS, 5)
        every = [stop((2026, 1, 10 + 2 * number), (2026, 1, 10 + 2 * number)) for number in range(10)]
        self.check((2026, 1, 19), every, SATURDAY, DAYS, 5)
        self.check((2026, 2, 3), every, SATURDAY, DAYS, 15)

    def test_every_unit(self):
        told = [stop((2026, 2, 1), (2026, 2, 10))]
        self.check((2026, 2, 24), told, (2026, 1, 31), WEEKS, 2)
        self.check((2026, 3, 10), told, (2026, 1, 31), MONTHS, 1)
        self.check((2026, 3, 11), told, (2026, 1, 31), MONTHS, 1, months=1)
        self.check((2027, 2, 10), told, (2026, 1, 31), YEARS, 1)
        self.check((2026, 2, 11), told, (2026, 1, 31), WORKING_DAYS, 1)

    def test_an_end_on_a_day_of_rest_then(self):
        told = [week(5, 6), stop((2026, 1, 12), (2026, 1, 13))]
        self.check_rules([(2026, 1, 17), (2026, 1, 19), (2026, 1, 16), (2026, 1, 19)], told, SATURDAY, DAYS, 5)

    def test_a_plain_end_on_a_day_of_rest_says_nothing(self):
        told = [week(5, 6), stop((2026, 1, 12), (2026, 1, 13))]
        self.check_rules([(2026, 1, 20)] * 4, told, SATURDAY, DAYS, 8)

    def test_from_a_day_of_rest_to_whatever_is_stopped(self):
        told = [week(5, 6), stop((2026, 1, 14), (2026, 1, 16)), stop((2026, 1, 18), (2026, 1, 20))]
        self.check_rules([(2026, 1, 17), (2026, 1, 19), (2026, 1, 16), (2026, 1, 19)], told, SATURDAY, DAYS, 4)

    def test_beyond_the_last_year(self):
        told = [stop((1600, 1, 1), (2999, 12, 31))]
        for unit in (DAYS, WEEKS, MONTHS, YEARS):
            for number in (1, MOST[unit]):
                self.assertEqual(ends(told, (1600, 1, 1), unit, number), [-6])
        told = [stop((2999, 12, 2), (2999, 12, 31))]
        self.check((2999, 12, 1), told, (2999, 11, 30), DAYS, 1)
        self.assertEqual(ends(told, (2999, 11, 30), DAYS, 2), [-6])
        self.check((2999, 12, 31), [*told, yearly(1, 1)], (2999, 11, 30), DAYS, 2, rule=2)

    def test_stops_are_gone_after_begins(self):
        told = [stop((2026, 1, 12), (2026, 1, 14)), week(4, 5, 6), begins()]
        self.check((2026, 1, 15), told, SATURDAY, DAYS, 5, rule=1)
        self.assertEqual(ask(way(0, 0, 0), begins(), last(0, SATURDAY, DAYS, 5))[-1], [-2])


class WorkingDays(LastCase):
    def test_days_that_do_not_rest(self):
        told = [week(5, 6)]
        self.check((2026, 1, 12), told, (2026, 1, 9), WORKING_DAYS, 1)
        self.check((2026, 1, 23), told, (2026, 1, 9), WORKING_DAYS, 10)
        self.check((2026, 1, 12), told, SATURDAY, WORKING_DAYS, 1)
        self.check((2026, 1, 13), [*told, closed(2026, 1, 12)], SATURDAY, WORKING_DAYS, 1)

    def test_when_the_event_counts(self):
        told = [week(5, 6)]
        self.check((2026, 1, 9), told, (2026, 1, 9), WORKING_DAYS, 1, counts=1)
        self.check((2026, 1, 12), told, SATURDAY, WORKING_DAYS, 1, counts=1)
        self.check((2026, 1, 22), told, (2026, 1, 9), WORKING_DAYS, 10, counts=1)

    def test_days_that_are_stopped(self):
        told = [week(5, 6), stop((2026, 1, 12), (2026, 1, 14)), stop((2026, 1, 16), (2026, 1, 18))]
        self.check((2026, 1, 15), told, (2026, 1, 9), WORKING_DAYS, 1)
        self.check((2026, 1, 19), told, (2026, 1, 9), WORKING_DAYS, 2)
        self.check((2026, 1, 15), told, (2026, 1, 12), WORKING_DAYS, 1, counts=1)

    def test_the_rule_for_days_of_rest_says_nothing(self):
        told = [week(5, 6), yearly(1, 1), stop((2026, 1, 2), (2026, 1, 6))]
        self.check_rules([(2026, 1, 9)] * 4, told, (2025, 12, 30), WORKING_DAYS, 4)
        self.check_rules([(2026, 1, 30)] * 4, told, (2026, 1, 29), WORKING_DAYS, 1)

    def test_across_years(self):
        self.check((2027, 1, 4), [week(5, 6), yearly(1, 1)], (2026, 12, 30), WORKING_DAYS, 2)
        self.check(shifted((2026, 1, 5), 7 * 200 - 4), [week(5, 6)], (2026, 1, 5), WORKING_DAYS, 999, counts=1)

    def test_12000_days_are_looked_at(self):
        first = (2000, 1, 2)
        told = [stop(first, shifted(first, 11998))]
        self.check(shifted(first, 11999), told, (2000, 1, 1), WORKING_DAYS, 1)
        self.check(shifted(first, 11999), told, first, WORKING_DAYS, 1, counts=1)
        self.assertEqual(ends(told, (2000, 1, 1), WORKING_DAYS, 2), [-7])
        self.assertEqual(ends([stop(first, shifted(first, 11999))], (2000, 1, 1), WORKING_DAYS, 1), [-7])
        self.assertEqual(ends(told, (2000, 1, 1), WORKING_DAYS, 1, counts=1), told_day((2000, 1, 1)))
        self.assertEqual(ends(told, (2000, 1, 1), WORKING_DAYS, 2, counts=1), [-7])

    def test_no_end_and_beyond(self):
        told = [stop((1600, 1, 1), (2999, 12, 31))]
        self.assertEqual(ends(told, (1600, 1, 1), WORKING_DAYS, 1), [-7])
        self.assertEqual(ends(told, (2990, 1, 1), WORKING_DAYS, 1), [-6])
        self.assertEqual(ends(told, shifted((2999, 12, 31), -11999), WORKING_DAYS, 1), [-6])
        self.assertEqual(ends(told, shifted((2999, 12, 31), -11999), WORKING_DAYS, 2), [-7])
        self.assertEqual(ends(told, shifted((2999, 12, 31), -12000), WORKING_DAYS, 1), [-7])


class Refusals(LastCase):
    def test_no_date(self):
        for date in NO_DATES:
            self.assertEqual(ends([], date, DAYS, 1), [-1], date)

    def test_units_and_numbers(self):
        for unit in range(5):
            for number in (0, MOST[unit] + 1, TOP):
                self.assertEqual(ends([], SATURDAY, unit, number), [-1], (unit, number))
        for unit in (5, 6, TOP):
            self.assertEqual(ends([], SATURDAY, unit, 1), [-1], unit)

    def test_no_such_way(self):
        self.assertEqual(ask(last(0, SATURDAY, DAYS, 1)), [[-2]])
        for number in (1, 2, 7, 8, TOP):
            self.assertEqual(last_answer(way(0, 0, 0), last(number, SATURDAY, DAYS, 1)), [-2], number)
        eight = [way(0, 0, 0)] * 8
        self.assertEqual(last_answer(*eight, last(7, SATURDAY, DAYS, 1)), told_day((2026, 1, 11)))
        self.assertEqual(last_answer(*eight, last(8, SATURDAY, DAYS, 1)), [-2])

    def test_wrong_numbers_are_told_before_the_way(self):
        for asked in (last(0, (2026, 2, 29), DAYS, 1), last(TOP, SATURDAY, 5, 1), last(0, SATURDAY, YEARS, 100)):
            self.assertEqual(ask(asked), [[-1]])

    def test_the_way_is_told_before_no_end_and_beyond(self):
        self.assertEqual(ask(last(0, (2999, 12, 31), DAYS, 1)), [[-2]])
        self.assertEqual(ask(stop((1600, 1, 1), (2999, 12, 31)), last(0, (1600, 1, 1), WORKING_DAYS, 1)), [[1], [-2]])

    def test_a_refusal_changes_nothing(self):
        told = [week(5, 6), way(0, 1, 0), stop((2026, 1, 12), (2026, 1, 12))]
        asked = last(0, SATURDAY, DAYS, 5)
        refused = [last(0, (2026, 2, 29), DAYS, 1), last(1, SATURDAY, DAYS, 1), last(0, (2999, 12, 31), DAYS, 1)]
        self.assertEqual(ask(*told, asked, *refused, asked, way(0, 0, 0))[3:],
                         [told_day((2026, 1, 16)), [-1], [-2], [-6], told_day((2026, 1, 16)), [1]])


if __name__ == "__main__":
    unittest.main()
