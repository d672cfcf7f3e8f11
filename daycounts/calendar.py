"""The calls on one calendar: each takes the book and its numbers, and gives back the numbers it answers."""

from daycounts.book import Book
from daycounts.dates import LEAP_YEAR, day_number, has_day, is_date, weekday

WRONG = -1
OUT_OF_ORDER = -3
FULL = -5

LAST_WEEKDAY = 6
MOST_WEEKDAYS = 6
FARTHEST_FROM_EASTER = 60
LAST_REST_RULE = 3
LAST_MONTHS_RULE = 2
MOST_DAYS = 40
MOST_WAYS = 8
MOST_STOPS = 20


def begins(book, numbers):
    book.forget_all()
    return [0]


def are_weekdays(days):
    if len(days) > MOST_WEEKDAYS:
        return False
    before = -1
    for day in days:
        if day <= before or day > LAST_WEEKDAY:
            return False
        before = day
    return True


def week(book, numbers):
    days = numbers[1:]
    if not are_weekdays(days):
        return [WRONG]
    book.week_days = days
    return [len(days)]


def add_day(days, day):
    if len(days) >= MOST_DAYS:
        return [FULL]
    days.append(day)
    return [len(days)]


def yearly(book, numbers):
    if not has_day(LEAP_YEAR, numbers[0], numbers[1]):
        return [WRONG]
    return add_day(book.yearly_days, (numbers[0], numbers[1]))


def easters(book, numbers):
    if abs(numbers[0]) > FARTHEST_FROM_EASTER:
        return [WRONG]
    return add_day(book.easter_days, numbers[0])


def closed(book, numbers):
    if not is_date(numbers):
        return [WRONG]
    return add_day(book.closed_days, day_number(numbers))


def way(book, numbers):
    if numbers[1] > LAST_REST_RULE or numbers[2] > LAST_MONTHS_RULE:
        return [WRONG]
    if len(book.ways) >= MOST_WAYS:
        return [FULL]
    book.ways.append((numbers[0], numbers[1], numbers[2]))
    return [len(book.ways) - 1]


def stop(book, numbers):
    if not is_date(numbers[:3]) or not is_date(numbers[3:]):
        return [WRONG]
    first = day_number(numbers[:3])
    final = day_number(numbers[3:])
    if final < first or not book.is_behind_stops(first):
        return [OUT_OF_ORDER]
    if len(book.stops) >= MOST_STOPS:
        return [FULL]
    book.stops.append((first, final))
    return [len(book.stops)]


def rest(book, numbers):
    if not is_date(numbers):
        return [WRONG]
    resting = 1 if book.rests(numbers) else 0
    return [resting, weekday(day_number(numbers))]


# The place in these is the call's number.
HANDLERS = (begins, week, yearly, easters, closed, way, stop, rest)
WHOLE_NUMBERS = (0, 0, 2, 1, 3, 3, 6, 3)
ROWS = (0, 1, 0, 0, 0, 0, 0, 0)


def end_of_call(calls, start):
    end = start + 1 + WHOLE_NUMBERS[calls[start]]
    if ROWS[calls[start]] == 1:
        end += 1 + calls[end]
    return end


def answers(calls):
    book = Book()
    answered = []
    start = 0
    while start < len(calls):
        end = end_of_call(calls, start)
        found = HANDLERS[calls[start]](book, calls[start + 1:end])
        answered.append(len(found))
        answered.extend(found)
        start = end
    return answered
