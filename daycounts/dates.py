"""Dates by the Gregorian rule. A date is its year, month and day; a day's number is 0 on January 1, 1600."""

FIRST_YEAR = 1600
LAST_YEAR = 2999
LEAP_YEAR = 2000
MONTHS = 12
FEBRUARY = 2
MONTH_LENGTHS = (31, 28, 31, 30, 31, 30, 31, 31, 30, 31, 30, 31)
SATURDAY = 5


def is_leap(year):
    return year % 4 == 0 and (year % 100 != 0 or year % 400 == 0)


def month_length(year, month):
    if month == FEBRUARY and is_leap(year):
        return 29
    return MONTH_LENGTHS[month - 1]


def has_day(year, month, day):
    if month < 1 or month > MONTHS:
        return False
    return 1 <= day <= month_length(year, month)


def is_date(date):
    if date[0] < FIRST_YEAR or date[0] > LAST_YEAR:
        return False
    return has_day(date[0], date[1], date[2])


def days_before_year(year):
    past = year - FIRST_YEAR
    # 1600 itself is a leap year, so the years are rounded up where leap years are counted.
    leaps = (past + 3) // 4 - (past + 99) // 100 + (past + 399) // 400
    return 365 * past + leaps


def day_number(date):
    number = days_before_year(date[0]) + date[2] - 1
    for month in range(1, date[1]):
        number += month_length(date[0], month)
    return number


def weekday(number):
    return (number + SATURDAY) % 7


def easter(year):
    # The letters are the document's own, so that the two can be laid side by side.
    a = year % 19
    b = year // 100
    c = year % 100
    h = (19 * a + b - b // 4 - (b - (b + 8) // 25 + 1) // 3 + 15) % 30
    l = (32 + 2 * (b % 4) + 2 * (c // 4) - h - c % 4) % 7
    m = (a + 11 * h + 22 * l) // 451
    n = h + l + 114 - 7 * m
    return (year, n // 31, n % 31 + 1)
