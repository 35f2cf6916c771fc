"""A live store, in which units come and are sold day by day."""

from soldages.errors import NotThere
from soldages.logs import ages_of, Log
from soldages.rules import choice_by


class Store:
    """A store that starts empty on day 0."""

    def __init__(self):
        self._rows = [(0, 0)]
        self._there = []
        self._ages_sold = []

    @property
    def today(self):
        """The day."""
        return len(self._rows) - 1

    @property
    def held(self):
        """The ascending tuple of the days in of the units that are there."""
        return tuple(self._there)

    def arrive(self, count):
        """Let so many units arrive today."""
        arrived, left = self._rows[-1]
        self._rows[-1] = (arrived + count, left)
        self._there.extend([self.today] * count)

    def sell(self, day_in):
        """Sell a unit that came on a day, which may be any integer, and return its age."""
        if day_in not in self._there:
            raise NotThere(day_in)
        self._there.remove(day_in)
        arrived, left = self._rows[-1]
        self._rows[-1] = (arrived, left + 1)
        age = self.today - day_in
        self._ages_sold.append(age)
        return age

    def sell_by(self, rule):
        """Sell a unit by a rule and return its age."""
        if len(self._there) == 0:
            raise NotThere(self.today)
        return self.sell(self._there[0] if rule == "oldest" else self._there[-1])

    def next_day(self):
        """End the day and return the new one."""
        self._rows.append((0, 0))
        return self.today

    def log(self):
        """Return the log of all days up to today."""
        return Log(self._rows)

    def ages(self):
        """Return the ascending list of the ages of the sold units."""
        return sorted(self._ages_sold)

    def best(self):
        """Return the ascending ages of the sales of the log by the oldest first."""
        return _ages_by(self._rows, "oldest")

    def worst(self):
        """Return the ascending ages of the sales of the log by the newest first."""
        return _ages_by(self._rows, "newest")

    def fork(self):
        """Return a store in the same state that is independent of this one."""
        other = Store()
        other._rows = list(self._rows)
        other._there = list(self._there)
        other._ages_sold = list(self._ages_sold)
        return other


def _ages_by(rows, rule):
    """Return the ascending ages of the sales of days by a rule, without the closing."""
    # With one more day behind them, the closing stands apart from the sales of the last day.
    pairs = choice_by(Log(rows + [(0, 0)]), rule)
    return ages_of([(day_in, day_out) for day_in, day_out in pairs if day_out < len(rows)])
