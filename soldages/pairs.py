"""Which pairs of a day in and a day out are possible in a log."""


def is_possible(log, day_in, day_out):
    """Tell whether some choice has a pair of days, which may be any integers."""
    if day_in not in log.days_in or day_out not in log.days_out or day_in > day_out:
        return False
    return all([log.stock(day) >= 1 for day in range(day_in, day_out)])


def choice_with(log, day_in, day_out):
    """Return a choice with a pair of days, which may be any integers, or None if it is not possible."""
    if not is_possible(log, day_in, day_out):
        return None
    days_in = list(log.days_in)
    days_out = list(log.days_out)
    days_in.remove(day_in)
    days_out.remove(day_out)
    # The stock without this unit is never below 0, so the other units can leave by the oldest first.
    return sorted([(day_in, day_out)] + list(zip(days_in, days_out)))


def possible_ages(log, day_out):
    """Return the ascending tuple of the ages that a unit can have that leaves on a day, which may be any integer."""
    return tuple(sorted({day_out - day_in for day_in in log.days_in if is_possible(log, day_in, day_out)}))


def runs(log):
    """Return the tuples (first, last) of days into which the days with the stock 0 part the log."""
    found = []
    first = 0
    closing = len(log.days) - 1
    for day in range(closing + 1):
        if log.stock(day) == 0 or day == closing:
            found.append((first, day))
            first = day + 1
    return found
