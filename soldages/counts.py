"""The most units of a log that can have ages from low to high, a choice that has them, and prices that prove it.

The units with such ages in a choice are told by two rows of counts: how many of them came, and how many of them left,
up to each day. There is a choice with two such rows exactly if certain counts exceed others by no more than certain
amounts. Each such limit is a step from one count to another, so the greatest counts are the lengths of shortest ways.
"""


class Most:
    """The most units with ages from low to high that a choice of a log can have."""

    def __init__(self, log, low, high):
        self._log = log
        self._counts, self._last_steps = _shortest(_steps(log, low, high))

    def units(self):
        """Return how many these units are."""
        return self._counts[("came", len(self._log.days) - 1)]

    def choice(self):
        """Return a choice with so many of them."""
        days_in = self._days("came")
        days_out = self._days("left")
        others_in = _without(self._log.days_in, days_in)
        others_out = _without(self._log.days_out, days_out)
        # Joined in the order of the days, these units have ages from low to high, and no other unit leaves too early.
        return sorted(list(zip(days_in, days_out)) + list(zip(others_in, others_out)))

    def _days(self, kind):
        """Return the days in or the days out of these units, ascending, one for each."""
        found = []
        for day in range(len(self._log.days)):
            found.extend([day] * (self._counts[(kind, day)] - self._counts[(kind, day - 1)]))
        return found

    def prices(self):
        """Return two dicts of prices of the days in and of the days out.

        The prices of a pair add up to at least 1 if its age is from low to high, and to at least 0 otherwise. The
        prices of all units add up to the number of these units: together they are the amounts on a shortest way.
        """
        way = self._way()
        prices_in = {day: way.count(("came", day)) + _stocks_from(way, day) for day in self._log.days_in}
        prices_out = {day: way.count(("left", day)) - _stocks_from(way, day) for day in self._log.days_out}
        return prices_in, prices_out

    def _way(self):
        """Return the kinds and the days of the amounts on a shortest way to the last count."""
        found = []
        count = ("came", len(self._log.days) - 1)
        while count in self._last_steps:
            lower, kind = self._last_steps[count]
            found.append((kind, count[1]))
            count = lower
        return found


def _steps(log, low, high):
    """Return the steps (lower, upper, amount, kind): the upper count is at most the lower one plus the amount."""
    last = len(log.days) - 1
    stock = 0
    onward = []
    back = []
    for day in range(last + 1):
        came = log.days_in.count(day)
        left = log.days_out.count(day)
        stock = stock + came - left
        onward.append((("came", day - 1), ("came", day), came, "came"))
        onward.append((("left", day - 1), ("left", day), left, "left"))
        # Otherwise some other unit would leave before it came.
        onward.append((("left", day), ("came", day), stock, "stock"))
        onward.append((("came", _bounded(day - low, last)), ("left", day), 0, "low"))
        onward.append((("left", _bounded(day + high, last)), ("came", day), 0, "high"))
        back.append((("came", day), ("came", day - 1), 0, "rising"))
        back.append((("left", day), ("left", day - 1), 0, "rising"))
    return onward + back[::-1]


def _bounded(day, last):
    """Return the nearest day of the log; -1 stands for the time before it."""
    return max(-1, min(day, last))


def _shortest(steps):
    """Return the lengths of shortest ways to each count, and the last step of each as (lower, kind)."""
    lengths = {("came", -1): 0, ("left", -1): 0}
    last_steps = {}
    changed = True
    while changed:
        changed = False
        for lower, upper, amount, kind in steps:
            if lower in lengths and (upper not in lengths or lengths[lower] + amount < lengths[upper]):
                lengths[upper] = lengths[lower] + amount
                last_steps[upper] = (lower, kind)
                changed = True
    return lengths, last_steps


def _stocks_from(way, day):
    """Return how many amounts on a way are the stock of a day or of a later one."""
    return len([kind for kind, other in way if kind == "stock" and other >= day])


def _without(days, others):
    """Return the days without the others, each as often as it stands among them."""
    rest = list(days)
    for day in others:
        rest.remove(day)
    return rest
