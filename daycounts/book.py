"""What has been told of one calendar: its days of rest, its ways of counting, its stops."""


class Book:
    """The lists hold what was told, in the order in which it was told."""

    def __init__(self):
        self.forget_all()

    def forget_all(self):
        self.week_days = []
        self.yearly_days = []
        self.easter_days = []
        self.closed_days = []
        self.ways = []
        self.stops = []

    def is_behind_stops(self, number):
        # A stop is taken only behind all others, so the newest one is the last to end.
        return len(self.stops) == 0 or number > self.stops[-1][1]
