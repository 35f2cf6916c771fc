"""The choices by the two rules, and all choices of a small log."""

from soldages.errors import TooLarge

MOST_LISTED = 8


def choice_by(log, rule):
    """Return the choice by a rule, "oldest" or "newest"."""
    if rule == "oldest":
        return list(zip(log.days_in, log.days_out))
    return _newest_first(log.days_in, log.days_out)


def _newest_first(days_in, days_out):
    """Join each day out with the latest day in that is still there."""
    pairs = []
    there = []
    come = 0
    for day_out in days_out:
        while come < len(days_in) and days_in[come] <= day_out:
            there.append(days_in[come])
            come += 1
        pairs.append((there.pop(), day_out))
    return sorted(pairs)


def choices(log):
    """Yield all choices of a log in ascending order."""
    units = len(log.days_in)
    if units > MOST_LISTED:
        raise TooLarge(units)
    yield from _completed([], log.days_in, log.days_out)


def _completed(pairs, days_in, days_out):
    """Yield the choices that begin with the pairs and join these days, the days in one after the other."""
    if not days_in:
        yield list(pairs)
    later = days_in[1:]
    for at, pair in _next_pairs(pairs, days_in, days_out):
        longer = pairs + [pair]
        rest = days_out[:at] + days_out[at + 1:]
        yield from _completed(longer, later, rest)


def _next_pairs(pairs, days_in, days_out):
    """Return the pairs that may come next, ascending, each with the place of its day out."""
    found = []
    if days_in:
        for at, day_out in enumerate(days_out):
            pair = (days_in[0], day_out)
            # Equal days out are alike, and equal days in take theirs in ascending order:
            # otherwise a choice would come more than once.
            is_new = at == 0 or days_out[at - 1] != day_out
            if is_new and days_in[0] <= day_out and (not pairs or pairs[-1] <= pair):
                found.append((at, pair))
    return found
