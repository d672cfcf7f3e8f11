"""The calls on one calendar: each takes the book and its numbers, and gives back the numbers it answers."""

from daycounts.almanac import Almanac
from daycounts.book import Book
from daycounts.dates import (
    LAST_YEAR, LEAP_YEAR, MONTHS_OF_YEAR, date_of, day_number, easter, has_day, is_date, is_year, months_behind,
    weekday, whole_months,
)
from daycounts.spans import (
    WORKING_DAYS, Span, count_working_days, is_in_time, last_day, last_day_anew, latest_event,
)

WRONG = -1
NO_WAY = -2
OUT_OF_ORDER = -3
FULL = -5
BEYOND = -6
NO_END = -7

LAST_WEEKDAY = 6
MOST_WEEKDAYS = 6
FARTHEST_FROM_EASTER = 60
LAST_REST_RULE = 3
LAST_MONTHS_RULE = 2
MOST_DAYS = 40
MOST_WAYS = 8
MOST_STOPS = 20
# The place in this is the unit.
MOST_OF_UNIT = (9999, 999, 999, 99, 999)
MOST_DAYS_LATER = 4000


def begins(book, numbers):
    book.forget_all()
    return [0]


def are_weekdays(days):
    if len(days) > MOST_WEEKDAYS:
        return False
    before = -1
    for day in days:
        if day <= before or day > LAST_WEEKDAY:
            return False
        before = day
    return True


def week(book, numbers):
    days = numbers[1:]
    if not are_weekdays(days):
        return [WRONG]
    book.week_days = days
    return [len(days)]


def add_day(days, day):
    if len(days) >= MOST_DAYS:
        return [FULL]
    days.append(day)
    return [len(days)]


def yearly(book, numbers):
    if not has_day(LEAP_YEAR, numbers[0], numbers[1]):
        return [WRONG]
    return add_day(book.yearly_days, (numbers[0], numbers[1]))


def easters(book, numbers):
    if abs(numbers[0]) > FARTHEST_FROM_EASTER:
        return [WRONG]
    return add_day(book.easter_days, numbers[0])


def closed(book, numbers):
    if not is_date(numbers):
        return [WRONG]
    return add_day(book.closed_days, day_number(numbers))


def way(book, numbers):
    if numbers[1] > LAST_REST_RULE or numbers[2] > LAST_MONTHS_RULE:
        return [WRONG]
    if len(book.ways) >= MOST_WAYS:
        return [FULL]
    book.ways.append((numbers[0], numbers[1], numbers[2]))
    return [len(book.ways) - 1]


def stop(book, numbers):
    if not is_date(numbers[:3]) or not is_date(numbers[3:]):
        return [WRONG]
    first = day_number(numbers[:3])
    final = day_number(numbers[3:])
    if final < first or not book.is_behind_stops(first):
        return [OUT_OF_ORDER]
    if len(book.stops) >= MOST_STOPS:
        return [FULL]
    book.stops.append((first, final))
    return [len(book.stops)]


def rest(book, numbers):
    if not is_date(numbers):
        return [WRONG]
    number = day_number(numbers)
    resting = 1 if Almanac(book, book.stops).rests(number) else 0
    return [resting, weekday(number)]


def is_span(unit, number):
    return unit < len(MOST_OF_UNIT) and 1 <= number <= MOST_OF_UNIT[unit]


def refused_span(book, numbers):
    """Last, anew and latest begin alike: the way, a date, the unit, the number."""
    if not is_date(numbers[1:4]) or not is_span(numbers[4], numbers[5]):
        return [WRONG]
    if numbers[0] >= len(book.ways):
        return [NO_WAY]
    return []


def span_of(book, numbers):
    return Span(book.ways[numbers[0]], numbers[4], numbers[5])


def told_day(number):
    if number is None:
        return [NO_END]
    date = date_of(number)
    if date[0] > LAST_YEAR:
        return [BEYOND]
    return [weekday(number)] + list(date)


def last(book, numbers):
    refused = refused_span(book, numbers)
    if len(refused) > 0:
        return refused
    almanac = Almanac(book, book.stops)
    return told_day(last_day(almanac, span_of(book, numbers), day_number(numbers[1:4])))


def in_dates(row):
    return [row[place:place + 3] for place in range(0, len(row), 3)]


def are_dates(dates):
    for date in dates:
        if len(date) < 3 or not is_date(date):
            return False
    return True


def do_rise(days):
    for place in range(1, len(days)):
        if days[place] <= days[place - 1]:
            return False
    return True


def anew(book, numbers):
    dates = in_dates(numbers[7:])
    if not are_dates(dates):
        return [WRONG]
    refused = refused_span(book, numbers)
    if len(refused) > 0:
        return refused
    days = [day_number(date) for date in dates]
    if not do_rise(days):
        return [OUT_OF_ORDER]
    almanac = Almanac(book, book.stops)
    return told_day(last_day_anew(almanac, span_of(book, numbers), day_number(numbers[1:4]), days))


def latest(book, numbers):
    if numbers[4] == WORKING_DAYS:
        return [WRONG]
    refused = refused_span(book, numbers)
    if len(refused) > 0:
        return refused
    # It is asked as if nothing were stopped.
    almanac = Almanac(book, [])
    return told_day(latest_event(almanac, span_of(book, numbers), day_number(numbers[1:4])))


def in_time(book, numbers):
    if not are_dates(in_dates(numbers[:6])) or not is_span(numbers[6], numbers[7]):
        return [WRONG]
    event = day_number(numbers[:3])
    act = day_number(numbers[3:6])
    almanac = Almanac(book, book.stops)
    found = []
    for place in range(len(book.ways)):
        span = Span(book.ways[place], numbers[6], numbers[7])
        if is_in_time(almanac, span, event, act):
            found.append(place)
    return [len(found)] + found


def between(book, numbers):
    if not are_dates(in_dates(numbers[1:])):
        return [WRONG]
    if numbers[0] >= len(book.ways):
        return [NO_WAY]
    first = day_number(numbers[1:4])
    second = day_number(numbers[4:])
    if second < first:
        return [OUT_OF_ORDER]
    rule = book.ways[numbers[0]][2]
    months = whole_months(first, second, rule)
    left = second - months_behind(first, months, rule)
    return [months // MONTHS_OF_YEAR, months % MONTHS_OF_YEAR, left, second - first]


def working(book, numbers):
    if not are_dates(in_dates(numbers)):
        return [WRONG]
    first = day_number(numbers[:3])
    second = day_number(numbers[3:])
    if second < first or second - first > MOST_DAYS_LATER:
        return [OUT_OF_ORDER]
    return [count_working_days(Almanac(book, book.stops), first, second)]


def easter_date(book, numbers):
    if not is_year(numbers[0]):
        return [WRONG]
    return [0] + list(easter(numbers[0]))


# The place in these is the call's number.
HANDLERS = (
    begins, week, yearly, easters, closed, way, stop, rest, last, anew, latest, in_time, between, working, easter_date,
)
WHOLE_NUMBERS = (0, 0, 2, 1, 3, 3, 6, 3, 6, 6, 6, 8, 7, 6, 1)
ROWS = (0, 1, 0, 0, 0, 0, 0, 0, 0, 1, 0, 0, 0, 0, 0)


def end_of_call(calls, start):
    end = start + 1 + WHOLE_NUMBERS[calls[start]]
    if ROWS[calls[start]] == 1:
        end += 1 + calls[end]
    return end


def answers(calls):
    book = Book()
    answered = []
    start = 0
    while start < len(calls):
        end = end_of_call(calls, start)
        found = HANDLERS[calls[start]](book, calls[start + 1:end])
        answered.append(len(found))
        answered.extend(found)
        start = end
    return answered
