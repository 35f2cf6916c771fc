"""Shops whose units spoil, and stocks of such units that are never worse than others."""

from soldages.errors import Worse


class Shop:
    """A shop that serves by a rule units that can be sold on so many days."""

    def __init__(self, life, rule, *, stock=()):
        self._life = life
        self._rule = rule
        self._there = sorted(stock)
        self._served_so_far = 0
        self._spoiled_so_far = 0

    @property
    def lives(self):
        """The ascending tuple of the lives of the units that are there."""
        return tuple(self._there)

    @property
    def served(self):
        """How many units were served so far."""
        return self._served_so_far

    @property
    def spoiled(self):
        """How many units spoiled so far."""
        return self._spoiled_so_far

    def pass_day(self, arrived, demanded):
        """Make a day pass and return how many units it served and how many spoiled at its end."""
        there = sorted(self._there + [self._life] * arrived)
        served = min(demanded, len(there))
        kept = there[served:] if self._rule == "oldest" else there[:len(there) - served]
        self._there = [life - 1 for life in kept if life > 1]
        spoiled = len(kept) - len(self._there)
        self._served_so_far += served
        self._spoiled_so_far += spoiled
        return served, spoiled


def never_worse(first, second):
    """Tell whether the first stock is never worse than the second one."""
    return _future_against(first, second) is None


def matching(first, second):
    """Return the place of a unit of the first stock for each unit of the second one, with at least as great a life."""
    future = _future_against(first, second)
    if future is not None:
        raise Worse(future)
    found = [0] * len(second)
    for place, unit in zip(_places(first), _places(second)):
        found[unit] = place
    return found


def _future_against(first, second):
    """Return a future at the end of which the first stock has served fewer than the second one, or None."""
    lives = sorted(first, reverse=True) + [0] * len(second)
    for before, life in enumerate(sorted(second, reverse=True)):
        if lives[before] < life:
            # On the last day of such a life, so many units of the first stock are left at most, and more of the second.
            return [0] * (life - 1) + [before + 1]
    return None


def _places(stock):
    """Return the places of the units of a stock in the falling order of their lives."""
    falling = sorted([(life, place) for place, life in enumerate(stock)], reverse=True)
    return [place for _, place in falling]
