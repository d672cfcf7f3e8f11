"""Which days rest and which are worked on, beyond the last year too."""

from daycounts.dates import day_number, days_before_year, easter, has_day, weekday, year_of


class Almanac:
    """Made for one call out of what the book tells then; the stops are handed in, since one call asks without them."""

    def __init__(self, book, stops):
        self.book = book
        self.stops = stops
        self.years = {}

    def rest_flags(self, year):
        """For each day of the year whether it rests."""
        # Spans look at thousands of days: a year is worked out once.
        if year not in self.years:
            self.years[year] = self.find_rest_flags(year)
        return self.years[year]

    def find_rest_flags(self, year):
        start = days_before_year(year)
        behind = days_before_year(year + 1)
        flags = [weekday(number) in self.book.week_days for number in range(start, behind)]
        for told in self.book.yearly_days:
            if has_day(year, told[0], told[1]):
                flags[day_number((year, told[0], told[1])) - start] = True
        feast = day_number(easter(year))
        for days in self.book.easter_days:
            flags[feast + days - start] = True
        for number in self.book.closed_days:
            if start <= number < behind:
                flags[number - start] = True
        return flags

    def rests(self, number):
        year = year_of(number)
        return self.rest_flags(year)[number - days_before_year(year)]

    def working_days(self, year, first, final):
        """The year's days from the first up to and with the final one that neither rest nor are stopped."""
        start = days_before_year(year)
        idle = list(self.rest_flags(year))
        for told in self.stops:
            for number in range(max(told[0], start), min(told[1] + 1, start + len(idle))):
                idle[number - start] = True
        return [start + place for place in range(len(idle)) if not idle[place] and first <= start + place <= final]
