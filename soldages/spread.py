"""How the ages of two lists are spread, with evidence for and against."""

from soldages.errors import MoreSpread, NotComparable
from soldages.kinds import is_whole_tuple


class Table:
    """A convex table of the costs of ages."""

    def __init__(self, entries):
        self.entries = tuple([(level, amount) for level, amount in entries])

    def cost(self, ages):
        """Return the cost of a list of ages."""
        return sum([amount * _excess(ages, level) for level, amount in self.entries])

    def __eq__(self, other):
        return isinstance(other, Table) and self.entries == other.entries


def _excess(ages, level):
    """Return by how much the ages are above a level, in all."""
    return sum([max(0, age - level) for age in ages])


def _level_against(first, second):
    """Return the least age of the second list above which the first one costs more, or None."""
    # Between two ages of the second list the first one's cost, less the second one's, is convex in the level.
    # So it is greatest at such an age, or nowhere above 0, as the lists are comparable.
    for level in sorted(second):
        if _excess(first, level) > _excess(second, level):
            return level
    return None


def transfers(first, second):
    """Return transfers that lead from the second list to the first one."""
    if len(first) != len(second) or sum(first) != sum(second):
        raise NotComparable()
    level = _level_against(first, second)
    if level is not None:
        raise MoreSpread(level)
    return _steps(sorted(first, reverse=True), sorted(second, reverse=True))


def _steps(wanted, start):
    """Return the transfers between two falling lists, of which the one wanted is no more spread."""
    there = list(start)
    found = []
    high = 0
    # Each step makes one more place right. A place that is too low always has one before it that is too high,
    # since the first so many numbers have no greater sum in the list wanted.
    for low in range(len(wanted)):
        while there[low] < wanted[low]:
            while there[high] <= wanted[high]:
                high += 1
            moved = min(there[high] - wanted[high], wanted[low] - there[low])
            found.append((there[high], there[low], moved))
            there[high] -= moved
            there[low] += moved
    return found


def is_transfers(first, second, value):
    """Tell whether a value of any kind is a list of transfers from the second list to the first one."""
    if not isinstance(value, list):
        return False
    there = list(second)
    for step in value:
        if not _is_step(there, step):
            return False
        high, low, moved = step
        there.remove(high)
        there.remove(low)
        there.extend([high - moved, low + moved])
    return sorted(there) == sorted(first)


def _is_step(there, step):
    """Tell whether a value of any kind is a transfer that can be executed on a list."""
    if not is_whole_tuple(step, 3):
        return False
    high, low, moved = step
    # So high is greater than low, and they stand at two places.
    return moved >= 1 and high - moved >= low + moved and high in there and low in there


def compared(first, second):
    """Tell how the first of two comparable lists is spread: "alike", "less", "more" or "neither"."""
    if sorted(first) == sorted(second):
        return "alike"
    if _level_against(first, second) is None:
        return "less"
    if _level_against(second, first) is None:
        return "more"
    return "neither"
