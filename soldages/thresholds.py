"""How many units of a log can be old, that is, have an age of at least a level, with evidence."""

from soldages.counts import Most
from soldages.errors import NoChoice
from soldages.exchanges import path
from soldages.kinds import is_whole


def _most_old(log, level):
    """Return the most old units that a choice can have."""
    return Most(log, level, len(log.days))


def _most_young(log, level):
    """Return the most units that are not old that a choice can have."""
    return Most(log, 0, level - 1)


def bounds(log, level):
    """Return the least and the greatest number of old units of all choices."""
    return len(log.days_in) - _most_young(log, level).units(), _most_old(log, level).units()


def choice_with_number(log, level, number):
    """Return a choice with so many old units."""
    # Each exchange changes the number of old units by at most one, so the path comes by each possible number.
    for choice in path(log, _most_young(log, level).choice(), _most_old(log, level).choice()):
        if len([1 for day_in, day_out in choice if day_out - day_in >= level]) == number:
            return choice
    raise NoChoice(number)


def prices_for(log, level, *, least=False):
    """Return prices that prove the greatest number of old units, or the least one."""
    if not least:
        return _most_old(log, level).prices()
    # The old units are all units, with a price of 1 for each day in, less the other ones.
    prices_in, prices_out = _most_young(log, level).prices()
    return {day: 1 - prices_in[day] for day in prices_in}, {day: -prices_out[day] for day in prices_out}


def is_prices(log, level, value, *, least=False):
    """Tell whether a value of any kind is prices that prove the greatest number of old units, or the least one."""
    if not isinstance(value, tuple) or len(value) != 2:
        return False
    prices_in, prices_out = value
    if not _has_days(prices_in, log.days_in) or not _has_days(prices_out, log.days_out):
        return False
    total = sum([prices_in[day] for day in log.days_in]) + sum([prices_out[day] for day in log.days_out])
    fewest, most = bounds(log, level)
    if least:
        return total == fewest and max(_excesses(prices_in, prices_out, level), default=0) <= 0
    return total == most and min(_excesses(prices_in, prices_out, level), default=0) >= 0


def _has_days(prices, days):
    """Tell whether a value of any kind is a dict with an integer for each of these days and no other keys."""
    if not isinstance(prices, dict) or not all([is_whole(key) and is_whole(prices[key]) for key in prices]):
        return False
    return sorted(prices) == sorted(set(days))


def _excesses(prices_in, prices_out, level):
    """Return by how much the prices of each possible pair of days exceed 1 if it is old, and 0 otherwise."""
    found = []
    for day_in in prices_in:
        for day_out in prices_out:
            if day_in <= day_out:
                bound = 1 if day_out - day_in >= level else 0
                found.append(prices_in[day_in] + prices_out[day_out] - bound)
    return found
