"""Writes calls as lists of numbers and takes their answers apart."""

from daycounts.calendar import answers

TOP = 4294967295


def begins():
    return [0]


def week(*days):
    return [1, len(days), *days]


def yearly(month, day):
    return [2, month, day]


def easters(days):
    return [3, days]


def closed(year, month, day):
    return [4, year, month, day]


def way(counts, rest_rule, months):
    return [5, counts, rest_rule, months]


def stop(first, second):
    return [6, *first, *second]


def rest(year, month, day):
    return [7, year, month, day]


def joined(calls):
    return [number for call in calls for number in call]


def taken_apart(numbers):
    parts = []
    place = 0
    while place < len(numbers):
        behind = place + 1 + numbers[place]
        parts.append(numbers[place + 1:behind])
        place = behind
    return parts


def ask(*calls):
    return taken_apart(answers(joined(calls)))


def last_answer(*calls):
    return ask(*calls)[-1]


# All but the last row have one fault each, so that no other fault hides it.
NO_DATES = (
    (1599, 12, 31), (3000, 1, 1), (0, 1, 1), (TOP, 1, 1),
    (2024, 0, 1), (2024, 13, 1), (2024, TOP, 1),
    (2024, 1, 0), (2024, 1, 32), (2024, 4, 31), (2024, 1, TOP),
    (1700, 2, 29), (2900, 2, 29), (2023, 2, 29), (2000, 2, 30),
    (TOP, TOP, TOP), (0, 0, 0),
)

EDGE_DATES = (
    (1600, 1, 1), (2999, 12, 31), (1600, 2, 29), (2000, 2, 29), (2996, 2, 29), (1700, 2, 28), (2900, 2, 28),
)
