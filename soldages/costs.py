"""Logs with prices, and what the units cost that are sold first."""

from itertools import combinations

from soldages.errors import TooLarge
from soldages.logs import Log

MOST_COMBINED = 12


class Goods:
    """A log with the prices of the units that arrive."""

    def __init__(self, days):
        self.days = tuple([(tuple(prices), left) for prices, left in days])
        self.plain = Log([(len(prices), left) for prices, left in self.days])

    def greatest(self):
        """Return the greatest costs so far of 0, 1, 2 and so on sales."""
        return _sums(self._sold(True))

    def least(self):
        """Return the least costs so far of 0, 1, 2 and so on sales."""
        return _sums(self._sold(False))

    def taken(self, count, *, dearest=True):
        """Return the falling prices of the units that the dearest or the cheapest rule takes in the first sales."""
        return sorted(self._sold(dearest)[:count], reverse=True)

    def totals(self, count):
        """Return the ascending tuple of all costs so far of so many first sales that are possible."""
        units = [(day, price) for day, (prices, _) in enumerate(self.days) for price in prices]
        if len(units) > MOST_COMBINED:
            raise TooLarge(len(units))
        sales = self.plain.days_out[:count]
        return tuple(sorted({
            sum([price for _, price in chosen]) for chosen in combinations(units, count) if _can_be_sold(chosen, sales)
        }))

    def _sold(self, dearest):
        """Return the prices of the units that the dearest or the cheapest rule takes, in the order of the sales."""
        found = []
        there = []
        for prices, left in self.days:
            there.extend(prices)
            for _ in range(left):
                price = max(there) if dearest else min(there)
                there.remove(price)
                found.append(price)
        return found


def _can_be_sold(chosen, sales):
    """Tell whether units, in the order of their arrival, can be sold on as many days, in ascending order."""
    return all([day <= sale for (day, _), sale in zip(chosen, sales)])


def _sums(prices):
    """Return the sums of the first 0, 1, 2 and so on prices."""
    found = [0]
    for price in prices:
        found.append(found[-1] + price)
    return found
