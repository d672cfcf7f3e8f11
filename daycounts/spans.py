"""Where spans end. A day is its number; None stands for no day."""

from daycounts.dates import date_of, months_behind, months_of, year_of

DAYS = 0
WEEKS = 1
MONTHS = 2
WORKING_DAYS = 4

STAY = 0
NEXT = 1
BEFORE = 2

FARTHEST_FROM_REST = 399
MOST_LOOKED_FOR_WORK = 12000
MOST_LOOKED_FOR_EVENT = 4000
# Of a longer span the newest events needn't be looked at: no end comes back so far from a day of rest.
LENGTH_LOOKED_AT_WHOLE = 401
LEAST_LENGTHS = (1, 7, 28, 365)


class Span:
    """A number of a unit, counted by a way."""

    def __init__(self, way, unit, number):
        self.counts = way[0]
        self.rest_rule = way[1]
        self.months_rule = way[2]
        self.unit = unit
        self.number = number

    def first_day(self, event):
        return event + 1 - self.counts

    def plain_end(self, event):
        if self.unit == DAYS:
            return event + self.number - self.counts
        if self.unit == WEEKS:
            return event + 7 * self.number - self.counts
        months = self.number if self.unit == MONTHS else 12 * self.number
        return months_behind(event, months, self.months_rule) - self.counts

    def least_length(self):
        return LEAST_LENGTHS[self.unit] * self.number


def put_off(stops, first, plain):
    """The stops rise and none lies over another, so each that's reached moves the end on by its own days."""
    end = plain
    for told in stops:
        if told[0] <= end and told[1] >= first:
            end += told[1] - max(told[0], first) + 1
    return end


def next_open(almanac, number):
    for day in range(number + 1, number + FARTHEST_FROM_REST + 1):
        if not almanac.rests(day):
            return day
    return None


def last_open(almanac, number):
    for day in range(number - 1, max(number - FARTHEST_FROM_REST, 0) - 1, -1):
        if not almanac.rests(day):
            return day
    return None


def moved_off_rest(almanac, end, rule):
    if rule == STAY or not almanac.rests(end):
        return end
    if rule == BEFORE:
        return last_open(almanac, end)
    found = next_open(almanac, end)
    if rule == NEXT or found is None or months_of(date_of(found)) == months_of(date_of(end)):
        return found
    return last_open(almanac, end)


def years_from(first, final):
    return list(range(year_of(first), year_of(final) + 1))


def last_working_day(almanac, first, number):
    final = first + MOST_LOOKED_FOR_WORK - 1
    left = number
    for year in years_from(first, final):
        days = almanac.working_days(year, first, final)
        if len(days) >= left:
            return days[left - 1]
        left -= len(days)
    return None


def count_working_days(almanac, first, final):
    return sum([len(almanac.working_days(year, first, final)) for year in years_from(first, final)])


def last_day(almanac, span, event):
    first = span.first_day(event)
    if span.unit == WORKING_DAYS:
        return last_working_day(almanac, first, span.number)
    end = put_off(almanac.stops, first, span.plain_end(event))
    return moved_off_rest(almanac, end, span.rest_rule)


def last_day_anew(almanac, span, event, days):
    """The days rise."""
    newest = event
    end = last_day(almanac, span, newest)
    for day in days:
        if day >= newest and (end is None or day <= end):
            newest = day
            end = last_day(almanac, span, newest)
    return end


def latest_event(almanac, span, date):
    start = max(date - max(span.least_length() - LENGTH_LOOKED_AT_WHOLE, 0), 0)
    for event in range(start, max(start - MOST_LOOKED_FOR_EVENT, -1), -1):
        end = last_day(almanac, span, event)
        if end is not None and end <= date:
            return event
    return None


def is_in_time(almanac, span, event, act):
    if act < event:
        return False
    end = last_day(almanac, span, event)
    return end is None or act <= end
