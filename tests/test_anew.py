import unittest

from tests.helper import (
    DAYS, MONTHS, MOST, NO_DATES, TOP, WEEKS, WORKING_DAYS, YEARS, anew, ask, closed, hole, last, last_answer, shifted,
    stop, told_day, way, week, yearly,
)

EVENT = (2026, 1, 10)


def january(*days):
    return [(2026, 1, day) for day in days]


def ends(told, event, unit, number, dates, counts=0, rule=0, months=0):
    return last_answer(*told, way(counts, rule, months), anew(0, event, unit, number, dates))


class Anew(unittest.TestCase):
    def check(self, date, *given, **named):
        self.assertEqual(ends(*given, **named), told_day(date), (given, named))

    def test_the_day_of_the_week_then_the_date(self):
        self.assertEqual(ask(way(0, 0, 0), anew(0, EVENT, DAYS, 5, january(12))), [[0], [5, 2026, 1, 17]])

    def test_on_no_day(self):
        for unit in range(5):
            told = [week(5, 6), way(0, 1, 0)]
            self.assertEqual(last_answer(*told, anew(0, EVENT, unit, 3, [])),
                             last_answer(*told, last(0, EVENT, unit, 3)), unit)

    def test_before_the_event(self):
        self.check((2026, 1, 15), [], EVENT, DAYS, 5, january(1, 9))
        self.check((2026, 1, 15), [], EVENT, DAYS, 5, [(1600, 1, 1), (2025, 12, 31)])

    def test_on_the_day_of_the_event(self):
        self.check((2026, 1, 15), [], EVENT, DAYS, 5, january(10))

    def test_up_to_the_end(self):
        self.check((2026, 1, 16), [], EVENT, DAYS, 5, january(11))
        self.check((2026, 1, 20), [], EVENT, DAYS, 5, january(15))

    def test_behind_the_end(self):
        self.check((2026, 1, 15), [], EVENT, DAYS, 5, january(16))
        self.check((2026, 1, 15), [], EVENT, DAYS, 5, [(2999, 12, 31)])

    def test_when_the_event_counts(self):
        self.check((2026, 1, 18), [], EVENT, DAYS, 5, january(14), counts=1)
        self.check((2026, 1, 14), [], EVENT, DAYS, 5, january(15), counts=1)
        self.check((2026, 1, 10), [], EVENT, DAYS, 1, january(10), counts=1)
        self.check((2026, 1, 10), [], EVENT, DAYS, 1, january(11), counts=1)

    def test_again_and_again(self):
        self.check((2026, 1, 25), [], EVENT, DAYS, 5, january(15, 20))
        self.check((2026, 1, 20), [], EVENT, DAYS, 5, january(15, 21))
        self.check((2026, 1, 20), [], EVENT, DAYS, 5, january(15, 21, 22, 26))
        self.check((2026, 1, 22), [], EVENT, DAYS, 5, january(3, 12, 17, 23))
        self.check((2026, 1, 15), [], EVENT, DAYS, 5, january(16, 17, 18))

    def test_from_the_newest_event_and_not_the_first_one(self):
        self.check((2026, 3, 28), [], (2026, 1, 31), MONTHS, 1, [(2026, 2, 28)])
        self.check((2026, 3, 31), [], (2026, 1, 31), MONTHS, 1, [(2026, 2, 28)], months=2)
        self.check((2026, 4, 1), [], (2026, 1, 31), MONTHS, 1, [(2026, 3, 1)], months=1)
        self.check((2026, 2, 28), [], (2026, 1, 31), MONTHS, 1, [(2026, 3, 1)])

    def test_every_unit(self):
        self.check((2026, 1, 24), [], EVENT, WEEKS, 1, january(17))
        self.check((2026, 3, 10), [], EVENT, MONTHS, 1, [(2026, 2, 10)])
        self.check((2028, 1, 10), [], EVENT, YEARS, 1, [(2027, 1, 10)])
        self.check((2027, 1, 10), [], EVENT, YEARS, 1, [(2027, 1, 11)])
        self.check((2026, 1, 19), [week(5, 6)], EVENT, WORKING_DAYS, 3, january(14))
        self.check((2026, 1, 14), [week(5, 6)], EVENT, WORKING_DAYS, 3, january(15))

    def test_twenty_days(self):
        dates = [shifted(EVENT, 5 * number) for number in range(20)]
        self.check(shifted(EVENT, 100), [], EVENT, DAYS, 5, dates)
        dates = [shifted(EVENT, 6 * number) for number in range(20)]
        self.check((2026, 1, 15), [], EVENT, DAYS, 5, dates)

    def test_an_end_on_a_day_of_rest(self):
        told = [week(5, 6)]
        self.check((2026, 1, 26), told, EVENT, WEEKS, 1, january(19), rule=1)
        self.check((2026, 1, 16), told, EVENT, WEEKS, 1, january(17), rule=2)
        self.check((2026, 1, 23), told, EVENT, WEEKS, 1, january(16), rule=2)
        self.check((2026, 1, 24), told, EVENT, WEEKS, 1, january(17))

    def test_an_end_before_the_event(self):
        told = [closed(2026, 1, day) for day in range(5, 20)]
        self.check((2026, 1, 4), told, EVENT, DAYS, 3, january(4, 10, 11), rule=2)

    def test_put_off_by_stops(self):
        told = [stop((2026, 1, 12), (2026, 1, 14))]
        self.check((2026, 1, 23), told, EVENT, DAYS, 5, january(18))
        self.check((2026, 1, 18), told, EVENT, DAYS, 5, january(19))
        self.check((2026, 1, 19), told, EVENT, DAYS, 5, january(13))

    def test_an_end_beyond_the_last_year_is_an_end(self):
        self.assertEqual(ends([], (2999, 12, 1), MONTHS, 1, [(2999, 12, 31)]), [-6])
        told = [yearly(1, 1)]
        self.assertEqual(ends(told, (2999, 12, 27), DAYS, 6, [(2999, 12, 31)]), [-6])
        self.assertEqual(ends(told, (2999, 12, 26), DAYS, 6, [(2999, 12, 31)], rule=2), [-6])
        self.check((2999, 12, 31), told, (2999, 12, 26), DAYS, 6, [], rule=2)
        self.assertEqual(ends([], (2999, 12, 29), DAYS, 1, [(2999, 12, 31)]), told_day((2999, 12, 30)))

    def test_without_an_end_each_day_begins_it_anew(self):
        told = [stop((2000, 1, 1), (2040, 12, 31))]
        self.assertEqual(ends(told, (2000, 1, 1), WORKING_DAYS, 1, []), [-7])
        self.check((2041, 1, 1), told, (2000, 1, 1), WORKING_DAYS, 1, [(2040, 12, 31)])
        self.check((2051, 1, 2), told, (2000, 1, 1), WORKING_DAYS, 1, [(2001, 1, 1), (2051, 1, 1)])
        self.check((2041, 1, 1), told, (2000, 1, 1), WORKING_DAYS, 1, [(2040, 1, 1), (2051, 1, 1)])
        self.assertEqual(ends(told, (2000, 1, 1), WORKING_DAYS, 1, [(1999, 1, 1), (2000, 5, 5)]), [-7])
        self.assertEqual(ends(told, (2000, 1, 1), WORKING_DAYS, 1, [(2000, 5, 5), (2999, 12, 31)]), [-6])

    def test_from_an_end_to_none(self):
        told = hole((2026, 1, 11), 57)
        self.check((2026, 1, 4), told, (2026, 1, 1), DAYS, 2, [], rule=1)
        self.assertEqual(ends(told, (2026, 1, 1), DAYS, 2, january(4), rule=1), [-7])
        self.check((2027, 2, 14), told, (2026, 1, 1), DAYS, 2, january(4, 9), rule=1)


class Refusals(unittest.TestCase):
    def test_no_date(self):
        for date in NO_DATES:
            self.assertEqual(ends([], date, DAYS, 5, january(12)), [-1], date)
            self.assertEqual(ends([], EVENT, DAYS, 5, [date]), [-1], date)
            self.assertEqual(ends([], EVENT, DAYS, 5, [*january(12), date]), [-1], date)
            self.assertEqual(ends([], EVENT, DAYS, 5, [date, *january(12)]), [-1], date)
            self.assertEqual(ends([], EVENT, DAYS, 5, [(2999, 12, 1), date, (2999, 12, 31)]), [-1], date)

    def test_an_unfinished_date_is_none(self):
        for row in ([2026], [2026, 1], [2026, 1, 12, 2026], [2026, 1, 12, 2026, 1]):
            self.assertEqual(ends([], EVENT, DAYS, 5, [row]), [-1], row)

    def test_units_and_numbers(self):
        for unit in range(5):
            self.assertEqual(ends([], (2000, 1, 1), unit, MOST[unit], []),
                             last_answer(way(0, 0, 0), last(0, (2000, 1, 1), unit, MOST[unit])), unit)
            for number in (0, MOST[unit] + 1, TOP):
                self.assertEqual(ends([], EVENT, unit, number, january(12)), [-1], (unit, number))
        for unit in (5, TOP):
            self.assertEqual(ends([], EVENT, unit, 1, january(12)), [-1], unit)

    def test_no_such_way(self):
        self.assertEqual(ask(anew(0, EVENT, DAYS, 5, january(12))), [[-2]])
        for number in (1, 8, TOP):
            self.assertEqual(last_answer(way(0, 0, 0), anew(number, EVENT, DAYS, 5, [])), [-2], number)

    def test_dates_that_do_not_rise(self):
        for dates in (
            january(12, 11), january(12, 12), january(1, 2, 2), january(1, 3, 2), [(2026, 2, 1), (2026, 1, 2)],
            [(2027, 1, 1), (2026, 12, 31)], january(30, 1), [*january(*range(1, 20)), (2026, 1, 19)],
        ):
            self.assertEqual(ends([], EVENT, DAYS, 5, dates), [-3], dates)
        for dates in ([(2026, 1, 31), (2026, 2, 1)], [(2025, 12, 31), (2026, 1, 1)]):
            self.assertEqual(ends([], EVENT, DAYS, 5, dates), told_day((2026, 1, 15)), dates)

    def test_the_first_refusal_told_counts(self):
        falling = january(12, 11)
        self.assertEqual(ask(anew(0, EVENT, DAYS, 0, falling)), [[-1]])
        self.assertEqual(ask(anew(0, EVENT, DAYS, 5, [*falling, (2026, 2, 29)])), [[-1]])
        self.assertEqual(ask(anew(0, EVENT, DAYS, 5, [(2026, 2, 29)])), [[-1]])
        self.assertEqual(ask(anew(0, EVENT, DAYS, 5, falling)), [[-2]])
        self.assertEqual(ends([], EVENT, DAYS, 0, falling), [-1])
        self.assertEqual(ends([], (2999, 12, 31), DAYS, 5, falling), [-3])
        told = [stop((1600, 1, 1), (2999, 12, 31))]
        self.assertEqual(ends(told, (1600, 1, 1), WORKING_DAYS, 1, falling), [-3])
        self.assertEqual(ends(told, (1600, 1, 1), WORKING_DAYS, 1, []), [-7])

    def test_a_refusal_changes_nothing(self):
        told = [week(5, 6), way(0, 1, 0)]
        asked = anew(0, EVENT, DAYS, 5, january(12))
        refused = [anew(0, EVENT, DAYS, 0, []), anew(1, EVENT, DAYS, 5, []), anew(0, EVENT, DAYS, 5, january(12, 11)),
                   anew(0, (2999, 12, 31), DAYS, 5, [])]
        self.assertEqual(ask(*told, asked, *refused, asked, way(0, 0, 0))[2:],
                         [told_day((2026, 1, 19)), [-1], [-2], [-3], [-6], told_day((2026, 1, 19)), [1]])

    def test_the_next_call_stands_behind_the_dates(self):
        found = ask(way(0, 0, 0), anew(0, EVENT, DAYS, 5, january(11, 12)), anew(0, EVENT, DAYS, 5, []), way(0, 0, 0),
                    anew(0, EVENT, DAYS, 5, january(2, 1)), way(0, 0, 0))
        self.assertEqual(found, [[0], told_day((2026, 1, 17)), told_day((2026, 1, 15)), [1], [-3], [2]])


if __name__ == "__main__":
    unittest.main()
