"""Dates by the Gregorian rule. A date is its year, month and day; a day's number is 0 on January 1, 1600."""

FIRST_YEAR = 1600
LAST_YEAR = 2999
LEAP_YEAR = 2000
MONTHS_OF_YEAR = 12
DAYS_OF_400_YEARS = 146097
FEBRUARY = 2
MONTH_LENGTHS = (31, 28, 31, 30, 31, 30, 31, 31, 30, 31, 30, 31)
SATURDAY = 5

FIRST_OF_NEXT_MONTH = 1
END_TO_END = 2


def is_leap(year):
    return year % 4 == 0 and (year % 100 != 0 or year % 400 == 0)


def month_length(year, month):
    if month == FEBRUARY and is_leap(year):
        return 29
    return MONTH_LENGTHS[month - 1]


def has_day(year, month, day):
    if month < 1 or month > MONTHS_OF_YEAR:
        return False
    return 1 <= day <= month_length(year, month)


def is_year(year):
    return FIRST_YEAR <= year <= LAST_YEAR


def is_date(date):
    return is_year(date[0]) and has_day(date[0], date[1], date[2])


def days_before_year(year):
    past = year - FIRST_YEAR
    # 1600 itself is a leap year, so the years are rounded up where leap years are counted.
    leaps = (past + 3) // 4 - (past + 99) // 100 + (past + 399) // 400
    return 365 * past + leaps


def day_number(date):
    number = days_before_year(date[0]) + date[2] - 1
    for month in range(1, date[1]):
        number += month_length(date[0], month)
    return number


def year_of(number):
    year = FIRST_YEAR + number * 400 // DAYS_OF_400_YEARS
    # Leap days don't lie evenly, so the guess may be a year off on either side.
    if days_before_year(year) > number:
        return year - 1
    if days_before_year(year + 1) <= number:
        return year + 1
    return year


def date_of(number):
    year = year_of(number)
    month = 1
    day = number - days_before_year(year) + 1
    while day > month_length(year, month):
        day -= month_length(year, month)
        month += 1
    return (year, month, day)


def months_of(date):
    return date[0] * MONTHS_OF_YEAR + date[1] - 1


def months_behind(number, months, rule):
    date = date_of(number)
    past = months_of(date) + months
    year = past // MONTHS_OF_YEAR
    month = past % MONTHS_OF_YEAR + 1
    final = month_length(year, month)
    if rule == END_TO_END and date[2] == month_length(date[0], date[1]):
        return day_number((year, month, final))
    if date[2] <= final:
        return day_number((year, month, date[2]))
    if rule == FIRST_OF_NEXT_MONTH:
        return day_number((year, month, final)) + 1
    return day_number((year, month, final))


def whole_months(first, second, rule):
    """As many months as can be so that that many behind the first day isn't behind the second."""
    months = months_of(date_of(second)) - months_of(date_of(first))
    while months_behind(first, months, rule) > second:
        months -= 1
    return months


def weekday(number):
    return (number + SATURDAY) % 7


def easter(year):
    # The letters are the document's own, so that the two can be laid side by side.
    a = year % 19
    b = year // 100
    c = year % 100
    h = (19 * a + b - b // 4 - (b - (b + 8) // 25 + 1) // 3 + 15) % 30
    l = (32 + 2 * (b % 4) + 2 * (c // 4) - h - c % 4) % 7
    m = (a + 11 * h + 22 * l) // 451
    n = h + l + 114 - 7 * m
    return (year, n // 31, n % 31 + 1)
