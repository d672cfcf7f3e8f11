import unittest

from tests.helper import (
    DAYS, EDGE_DATES, MONTHS, MOST, NO_DATES, TOP, WEEKS, WORKING_DAYS, YEARS, ask, begins, closed, hole, in_time,
    last_answer, stop, way, week, yearly,
)

EVENT = (2026, 1, 10)
REST_RULES = [way(0, 0, 0), way(0, 1, 0), way(0, 2, 0), way(0, 3, 0)]
MONTH_RULES = [way(0, 0, 0), way(0, 0, 1), way(0, 0, 2), way(1, 0, 0), way(1, 0, 1), way(1, 0, 2)]


def ways_in_time(told, event, act, unit, number):
    return last_answer(*told, in_time(event, act, unit, number))


class InTime(unittest.TestCase):
    def check(self, found_ways, *given):
        self.assertEqual(ways_in_time(*given), [len(found_ways), *found_ways], given)

    def test_how_many_then_which(self):
        self.assertEqual(ask(way(0, 0, 0), way(1, 0, 0), in_time(EVENT, (2026, 1, 15), DAYS, 5)), [[0], [1], [1, 0]])
        self.assertEqual(ask(way(1, 0, 0), way(0, 0, 0), in_time(EVENT, (2026, 1, 15), DAYS, 5)), [[0], [1], [1, 1]])

    def test_there_is_no_way(self):
        self.check([], [], EVENT, EVENT, DAYS, 5)
        self.check([], [way(0, 0, 0), begins()], EVENT, EVENT, DAYS, 5)

    def test_from_the_event_to_the_last_day(self):
        for day, found in ((1, []), (9, []), (10, [0]), (12, [0]), (15, [0]), (16, []), (31, [])):
            self.check(found, [way(0, 0, 0)], EVENT, (2026, 1, day), DAYS, 5)
        for day, found in ((9, []), (10, [0]), (14, [0]), (15, [])):
            self.check(found, [way(1, 0, 0)], EVENT, (2026, 1, day), DAYS, 5)

    def test_every_unit(self):
        both = [way(0, 0, 0), way(1, 0, 0)]
        for unit, last in ((DAYS, (2026, 1, 12)), (WEEKS, (2026, 1, 24)), (MONTHS, (2026, 3, 10)),
                           (YEARS, (2028, 1, 10)), (WORKING_DAYS, (2026, 1, 12))):
            year, month, day = last
            self.check([0, 1], both, EVENT, (year, month, day - 1), unit, 2)
            self.check([0], both, EVENT, last, unit, 2)
            self.check([], both, EVENT, (year, month, day + 1), unit, 2)

    def test_the_rules_for_days_of_rest(self):
        told = [week(5, 6), *REST_RULES]
        for date, found in (
            ((2026, 1, 30), [0, 1, 2, 3]), ((2026, 1, 31), [0, 1]), ((2026, 2, 1), [1]), ((2026, 2, 2), [1]),
            ((2026, 2, 3), []),
        ):
            self.check(found, told, EVENT, date, WEEKS, 3)
        for date, found in (((2026, 1, 17), [0, 1, 3]), ((2026, 1, 19), [1, 3]), ((2026, 1, 20), [])):
            self.check(found, told, EVENT, date, WEEKS, 1)

    def test_the_rules_for_months(self):
        for date, found in (
            ((2026, 2, 27), [0, 1, 2, 3, 4, 5]), ((2026, 2, 28), [0, 1, 2, 4]), ((2026, 3, 1), [1]),
            ((2026, 3, 2), []),
        ):
            self.check(found, MONTH_RULES, (2026, 1, 31), date, MONTHS, 1)
        for date, found in (
            ((2026, 3, 27), [0, 1, 2, 3, 4, 5]), ((2026, 3, 28), [0, 1, 2, 5]), ((2026, 3, 30), [2, 5]),
            ((2026, 3, 31), [2]),
        ):
            self.check(found, MONTH_RULES, (2026, 2, 28), date, MONTHS, 1)

    def test_eight_ways(self):
        told = [*MONTH_RULES, way(0, 1, 0), way(1, 1, 0)]
        self.check([0, 1, 2, 3, 4, 5, 6, 7], told, EVENT, EVENT, DAYS, 1)
        self.check([0, 1, 2, 6], told, EVENT, (2026, 1, 11), DAYS, 1)

    def test_put_off_by_stops(self):
        told = [stop((2026, 1, 12), (2026, 1, 14)), way(0, 0, 0), way(1, 0, 0)]
        for day, found in ((13, [0, 1]), (17, [0, 1]), (18, [0]), (19, [])):
            self.check(found, told, EVENT, (2026, 1, day), DAYS, 5)
        self.check([0], told, EVENT, (2026, 1, 16), WORKING_DAYS, 3)
        self.check([], told, EVENT, (2026, 1, 17), WORKING_DAYS, 3)

    def test_an_end_before_the_event(self):
        told = [*[closed(2026, 1, day) for day in range(5, 20)], *REST_RULES]
        self.check([0, 1, 3], told, EVENT, EVENT, DAYS, 3)
        self.check([], told, EVENT, (2026, 1, 4), DAYS, 3)

    def test_a_span_without_an_end(self):
        told = [*hole((2026, 1, 11), 57), *REST_RULES]
        self.check([0, 1, 3], told, (2026, 1, 1), (2026, 1, 10), DAYS, 9)
        self.check([1, 3], told, (2026, 1, 1), (2026, 1, 11), DAYS, 9)
        self.check([1, 3], told, (2026, 1, 1), (2999, 12, 31), DAYS, 9)
        self.check([], told, (2026, 1, 1), (2025, 12, 31), DAYS, 9)
        told = [stop((1600, 1, 1), (2999, 12, 31)), *REST_RULES]
        self.check([0, 1, 2, 3], told, (1600, 1, 1), (2999, 12, 31), WORKING_DAYS, 1)
        self.check([], told, (1600, 1, 2), (1600, 1, 1), WORKING_DAYS, 1)

    def test_an_end_beyond_the_last_year(self):
        told = [yearly(1, 1), closed(2999, 12, 31), *REST_RULES]
        self.check([0, 1, 3], told, (2999, 12, 25), (2999, 12, 31), WEEKS, 1)
        self.check([0, 1, 2, 3], told, (2999, 12, 25), (2999, 12, 30), WEEKS, 1)
        for unit in range(5):
            self.check([0, 1, 2, 3], REST_RULES, (2999, 12, 31), (2999, 12, 31), unit, MOST[unit])

    def test_every_edge_date(self):
        for date in EDGE_DATES:
            self.check([0, 1], [way(0, 0, 0), way(1, 0, 0)], date, date, DAYS, 1)


class Refusals(unittest.TestCase):
    def test_no_date(self):
        for date in NO_DATES:
            self.assertEqual(ways_in_time([way(0, 0, 0)], date, (2999, 12, 31), DAYS, 5), [-1], date)
            self.assertEqual(ways_in_time([way(0, 0, 0)], EVENT, date, DAYS, 5), [-1], date)
            self.assertEqual(ways_in_time([], date, date, DAYS, 5), [-1], date)

    def test_units_and_numbers(self):
        for unit in range(5):
            for number in (0, MOST[unit] + 1, TOP):
                for told in ([], [way(0, 0, 0)]):
                    self.assertEqual(ways_in_time(told, EVENT, EVENT, unit, number), [-1], (unit, number))
            self.assertEqual(ways_in_time([way(0, 0, 0)], EVENT, EVENT, unit, MOST[unit]), [1, 0])
        for unit in (5, TOP):
            self.assertEqual(ways_in_time([way(0, 0, 0)], EVENT, EVENT, unit, 1), [-1], unit)

    def test_an_act_before_the_event_is_no_refusal(self):
        self.assertEqual(ways_in_time([way(0, 0, 0)], EVENT, (1600, 1, 1), DAYS, 5), [0])

    def test_a_refusal_changes_nothing(self):
        asked = in_time(EVENT, (2026, 1, 15), DAYS, 5)
        refused = in_time(EVENT, (2026, 2, 29), DAYS, 5)
        self.assertEqual(ask(way(0, 0, 0), asked, refused, asked, way(0, 0, 0), asked)[1:],
                         [[1, 0], [-1], [1, 0], [1], [2, 0, 1]])


if __name__ == "__main__":
    unittest.main()
