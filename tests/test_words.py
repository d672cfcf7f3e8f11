"""The program beside a slow reading of the document's words: day by day, with Python's own dates."""

import datetime
import random
import unittest

from daycounts.calendar import answers
from tests import helper
from tests.helper import MOST, clavius, joined, taken_apart

ONE = datetime.timedelta(1)
FIRST = datetime.date(1600, 1, 1)
LAST = datetime.date(2999, 12, 31)


def as_date(numbers):
    if not 1600 <= numbers[0] <= 2999:
        return None
    try:
        return datetime.date(*numbers)
    except (ValueError, OverflowError):
        return None


def month_end(day):
    later = day.replace(day=28) + 4 * ONE
    return later - later.day * ONE


def months_on(day, months, rule):
    """Goes on a month at a time, by the months' first days."""
    month = day.replace(day=1)
    for _ in range(months):
        month = month_end(month) + ONE
    if rule == 2 and day == month_end(day):
        return month_end(month)
    if day.day <= month_end(month).day:
        return month.replace(day=day.day)
    return month_end(month) + ONE if rule == 1 else month_end(month)


class Words:
    """A calendar by the document's words; each call answers its numbers."""

    def __init__(self):
        self.begins()

    def begins(self):
        self.weekdays, self.yearlies, self.easter_days, self.singles, self.ways, self.stops = [], [], [], [], [], []
        return [0]

    def week(self, *days):
        if list(days) != sorted(set(days)) or len(days) > 6 or any(day > 6 for day in days):
            return [-1]
        self.weekdays = days
        return [len(days)]

    def told(self, days, day, most=40):
        if len(days) == most:
            return [-5]
        days.append(day)
        return [len(days)]

    def yearly(self, month, day):
        return [-1] if as_date((2000, month, day)) is None else self.told(self.yearlies, (month, day))

    def easters(self, days):
        return [-1] if not -60 <= days <= 60 else self.told(self.easter_days, days)

    def closed(self, *date):
        return [-1] if as_date(date) is None else self.told(self.singles, as_date(date))

    def way(self, counts, rest, months):
        if rest > 3 or months > 2:
            return [-1]
        found = self.told(self.ways, (counts, rest, months), 8)
        return found if found == [-5] else [found[0] - 1]

    def stop(self, first, second):
        first, second = as_date(first), as_date(second)
        if first is None or second is None:
            return [-1]
        if second < first or any(first <= end for begin, end in self.stops):
            return [-3]
        return self.told(self.stops, (first, second), 20)

    def rests(self, day):
        return (day.weekday() in self.weekdays or (day.month, day.day) in self.yearlies or day in self.singles
                or (day - clavius(day.year)).days in self.easter_days)

    def is_stopped(self, day):
        return any(begin <= day <= end for begin, end in self.stops)

    def rest(self, *date):
        day = as_date(date)
        return [-1] if day is None else [int(self.rests(day)), day.weekday()]

    def is_span(self, unit, number):
        return unit <= 4 and 1 <= number <= MOST[unit]

    def open_day(self, day, step):
        for _ in range(399):
            if day == FIRST and step < 0:
                return None
            day += step * ONE
            if not self.rests(day):
                return day
        return None

    def end(self, way, event, unit, number, stopping=True):
        counts, rest, months = way
        first = event if counts else event + ONE
        if unit == 4:
            for days in range(12000):
                day = first + days * ONE
                number -= not self.rests(day) and not self.is_stopped(day)
                if number == 0:
                    return day
            return None
        plain = (event + number * ONE, event + 7 * number * ONE)[unit] if unit < 2 else months_on(
            event, number if unit == 2 else 12 * number, months)
        left = (plain - counts * ONE - first).days + 1
        day = first - ONE
        while left:
            day += ONE
            left -= not (stopping and self.is_stopped(day))
        if rest == 0 or not self.rests(day):
            return day
        later, earlier = self.open_day(day, 1), self.open_day(day, -1)
        if rest == 1:
            return later
        if rest == 2:
            return earlier
        if later is None:
            return None
        return later if (later.year, later.month) == (day.year, day.month) else earlier

    def told_day(self, day):
        if day is None:
            return [-7]
        return [-6] if day > LAST else [day.weekday(), day.year, day.month, day.day]

    def last(self, way, event, unit, number):
        return self.anew(way, event, unit, number, [])

    def anew(self, way, event, unit, number, dates):
        event, dates = as_date(event), [as_date(date) for date in dates]
        if event is None or None in dates or not self.is_span(unit, number):
            return [-1]
        if way >= len(self.ways):
            return [-2]
        if dates != sorted(set(dates)):
            return [-3]
        end = self.end(self.ways[way], event, unit, number)
        for date in dates:
            if event <= date and (end is None or date <= end):
                event, end = date, self.end(self.ways[way], date, unit, number)
        return self.told_day(end)

    def latest(self, way, date, unit, number):
        date = as_date(date)
        if date is None or not self.is_span(unit, number) or unit == 4:
            return [-1]
        if way >= len(self.ways):
            return [-2]
        least = (1, 7, 28, 365)[unit] * number
        back = max(least - 401, 0)
        start = max(date.toordinal() - back, FIRST.toordinal())
        for ordinal in range(start, start - 4000, -1):
            if ordinal < FIRST.toordinal():
                break
            event = datetime.date.fromordinal(ordinal)
            end = self.end(self.ways[way], event, unit, number, False)
            if end is not None and end <= date:
                return self.told_day(event)
        return [-7]

    def in_time(self, event, act, unit, number):
        event, act = as_date(event), as_date(act)
        if event is None or act is None or not self.is_span(unit, number):
            return [-1]
        ends = [self.end(way, event, unit, number) for way in self.ways]
        found = [way for way, end in enumerate(ends) if event <= act and (end is None or act <= end)]
        return [len(found), *found]

    def between(self, way, first, second):
        first, second = as_date(first), as_date(second)
        if first is None or second is None:
            return [-1]
        if way >= len(self.ways):
            return [-2]
        if second < first:
            return [-3]
        years = months = 0
        while months_on(first, 12 * (years + 1), self.ways[way][2]) <= second:
            years += 1
        while months_on(first, 12 * years + months + 1, self.ways[way][2]) <= second:
            months += 1
        reached = months_on(first, 12 * years + months, self.ways[way][2])
        return [years, months, (second - reached).days, (second - first).days]

    def working(self, first, second):
        first, second = as_date(first), as_date(second)
        if first is None or second is None:
            return [-1]
        if second < first or (second - first).days > 4000:
            return [-3]
        days = [first + step * ONE for step in range((second - first).days + 1)]
        return [sum(not self.rests(day) and not self.is_stopped(day) for day in days)]

    def easter(self, year):
        if not 1600 <= year <= 2999:
            return [-1]
        day = clavius(year)
        return [0, day.year, day.month, day.day]


class Lines:
    """Lines of calls whose days lie near one another, so that they meet."""

    def __init__(self, seed):
        self.pick = random.Random(seed)
        self.middle = datetime.date.fromordinal(self.pick.choice((
            FIRST.toordinal(), LAST.toordinal(), self.pick.randint(FIRST.toordinal(), LAST.toordinal()))))

    def date(self, reach=60):
        if self.pick.random() < 0.01:
            return self.pick.choice(helper.NO_DATES)
        ordinal = self.middle.toordinal() + self.pick.randint(-reach, reach)
        day = datetime.date.fromordinal(min(max(ordinal, FIRST.toordinal()), LAST.toordinal()))
        if self.pick.random() < 0.2:
            day = min(max(month_end(day), FIRST), LAST)
        return (day.year, day.month, day.day)

    def span(self):
        unit = self.pick.choice((0, 0, 1, 2, 2, 3, 4, 4, 5) if self.pick.random() < 0.05 else (0, 1, 2, 3, 4))
        most = self.pick.choice((3, 30, MOST[min(unit, 4)])) if self.pick.random() < 0.2 else 6
        return unit, self.pick.randint(0 if self.pick.random() < 0.05 else 1, most)

    def call(self):
        pick = self.pick
        name = pick.choice((
            "week yearly easters closed way way way stop stop rest last last last last anew anew anew latest in_time "
            "in_time between between working easter").split())
        if pick.random() < 0.01:
            return "begins", ()
        way = pick.randint(0, 3)
        return name, {
            "week": lambda: pick.choice(((5, 6), (6,), (0, 1, 2, 3, 4, 6), (), (1, 3, 5), (0, 2, 3, 4, 5, 6), (5, 5))),
            "yearly": lambda: self.date()[1:],
            "easters": lambda: (pick.randint(-61, 61),),
            "closed": lambda: self.date(),
            "way": lambda: (pick.randint(0, 1), pick.choice((0, 1, 1, 2, 2, 3, 3, 3)), pick.randint(0, 2)),
            "stop": lambda: sorted((self.date(200), self.date(200))),
            "rest": lambda: self.date(),
            "last": lambda: (way, self.date(), *self.span()),
            "anew": lambda: (way, self.date(), *self.span(), sorted(self.date() for _ in range(pick.randint(0, 6)))),
            "latest": lambda: (way, self.date(), *self.span()),
            "in_time": lambda: (self.date(), self.date(), *self.span()),
            "between": lambda: (way, *sorted((self.date(900), self.date(900)))),
            "working": lambda: sorted((self.date(300), self.date(300))),
            "easter": lambda: (pick.choice((1599, 3000, pick.randint(1600, 2999))),),
        }[name]()

    def ways(self):
        return [("way", (self.pick.randint(0, 1), self.pick.randint(0, 3), self.pick.randint(0, 2))) for _ in range(3)]

    def hole(self):
        start = self.middle - self.pick.choice((0, 23, 40, 57, 80)) * 7 * ONE
        days = [start + 7 * number * ONE for number in range(80)]
        days = [(day.year, day.month, day.day) for day in days if FIRST <= day <= LAST]
        return [("week", [number for number in range(7) if number != start.weekday()]),
                *[("closed", day) for day in days[:40]], *[("yearly", day[1:]) for day in days[40:]]]

    def line(self):
        if self.pick.random() < 0.1:
            return [*self.ways(), *self.hole(), *[self.call() for _ in range(16)]]
        return [*self.ways(), *[self.call() for _ in range(self.pick.randint(20, 60))]]


class ByTheWords(unittest.TestCase):
    def test_lines_of_all_calls(self):
        for seed in range(30):
            line = Lines(seed).line()
            words = Words()
            expected = [getattr(words, name)(*given) for name, given in line]
            found = taken_apart(answers(joined([getattr(helper, name)(*given) for name, given in line])))
            for call, found_part, expected_part in zip(line, found, expected, strict=True):
                self.assertEqual(found_part, expected_part, (seed, call))


if __name__ == "__main__":
    unittest.main()
