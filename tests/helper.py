"""Writes calls as lists of numbers, takes their answers apart, and reckons with Python's own dates."""

import datetime

from daycounts.calendar import answers

TOP = 4294967295


def begins():
    return [0]


def week(*days):
    return [1, len(days), *days]


def yearly(month, day):
    return [2, month, day]


def easters(days):
    return [3, days]


def closed(year, month, day):
    return [4, year, month, day]


def way(counts, rest_rule, months):
    return [5, counts, rest_rule, months]


def stop(first, second):
    return [6, *first, *second]


def rest(year, month, day):
    return [7, year, month, day]


def last(way_number, event, unit, number):
    return [8, way_number, *event, unit, number]


def anew(way_number, event, unit, number, dates):
    row = joined(dates)
    return [9, way_number, *event, unit, number, len(row), *row]


def latest(way_number, date, unit, number):
    return [10, way_number, *date, unit, number]


def in_time(event, act, unit, number):
    return [11, *event, *act, unit, number]


def between(way_number, first, second):
    return [12, way_number, *first, *second]


def working(first, second):
    return [13, *first, *second]


def easter(year):
    return [14, year]


def joined(calls):
    return [number for call in calls for number in call]


def taken_apart(numbers):
    parts = []
    place = 0
    while place < len(numbers):
        behind = place + 1 + numbers[place]
        parts.append(numbers[place + 1:behind])
        place = behind
    return parts


def ask(*calls):
    return taken_apart(answers(joined(calls)))


def last_answer(*calls):
    return ask(*calls)[-1]


def shifted(date, days):
    day = datetime.date(*date) + datetime.timedelta(days)
    return (day.year, day.month, day.day)


def told_day(date):
    """A day as last, anew and latest answer it."""
    return [datetime.date(*date).weekday(), *date]


def hole(first, weeks):
    """Calls by which all days rest for so many weeks: six of each week, the others told one by one or every year."""
    days = [shifted(first, 7 * number) for number in range(weeks)]
    others = [day for day in range(7) if day != datetime.date(*first).weekday()]
    return [week(*others), *[closed(*day) for day in days[:40]], *[yearly(*day[1:]) for day in days[40:]]]


def clavius(year):
    """Easter by golden number and epact: another road than the document's."""
    golden = year % 19 + 1
    century = year // 100 + 1
    dropped = 3 * century // 4 - 12
    moon = (8 * century + 5) // 25 - 5
    sunday = 5 * year // 4 - dropped - 10
    epact = (11 * golden + 20 + moon - dropped) % 30
    if epact == 24 or (epact == 25 and golden > 11):
        epact += 1
    full_moon = 44 - epact
    if full_moon < 21:
        full_moon += 30
    day = full_moon + 7 - (sunday + full_moon) % 7
    return datetime.date(year, 3, 1) + datetime.timedelta(day - 1)


DAYS, WEEKS, MONTHS, YEARS, WORKING_DAYS = range(5)
MOST = (9999, 999, 999, 99, 999)

# All but the last row have one fault each, so that no other fault hides it.
NO_DATES = (
    (1599, 12, 31), (3000, 1, 1), (0, 1, 1), (TOP, 1, 1),
    (2024, 0, 1), (2024, 13, 1), (2024, TOP, 1),
    (2024, 1, 0), (2024, 1, 32), (2024, 4, 31), (2024, 1, TOP),
    (1700, 2, 29), (2900, 2, 29), (2023, 2, 29), (2000, 2, 30),
    (TOP, TOP, TOP), (0, 0, 0),
)

EDGE_DATES = (
    (1600, 1, 1), (2999, 12, 31), (1600, 2, 29), (2000, 2, 29), (2996, 2, 29), (1700, 2, 28), (2900, 2, 28),
)
