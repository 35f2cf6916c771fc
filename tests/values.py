"""Values of any kind and small logs, for several tests."""

from itertools import product

from soldages.errors import NotLawful
from soldages.logs import Log
from soldages.rules import choice_by, choices


def deep(size):
    """Return a list in a list and so on, so many levels deep."""
    value = []
    for _ in range(size):
        value = [value]
    return value


ANY_VALUES = [
    0, 1, -1, True, False, None, "", "ab", "[(0, 0)]", (), {}, {0: 1}, {(0, 0): 1},
    [None], [0], [True], ["ab"], ["abc"], [()], [[]], [{}], [(0,)], [(None, None)], [("a", "b")], [([], [])],
    [((0,), (0,))], [(0, 0, 0, 0)], [({}, {}, {})], [(0, 0), None], ((0, 0),), deep(50),
]


def lawful_logs(days, units):
    """Yield each lawful log of so many days with numbers up to the number of units."""
    rows = list(product(range(units + 1), repeat=2))
    for chosen in product(rows, repeat=days):
        try:
            yield Log(chosen)
        except NotLawful:
            pass


def all_small_logs():
    """Return the lawful logs of up to four days with numbers that stay small."""
    found = [*lawful_logs(1, 4), *lawful_logs(2, 3), *lawful_logs(3, 2), *lawful_logs(4, 1)]
    assert len(found) > 400
    return found


def numbers(seed):
    """Yield integers from 0 to 32767 in no plain order, the same ones each time."""
    state = seed
    while True:
        state = (state * 1103515245 + 12345) % 2 ** 31
        yield state >> 16


def mixed_days(seed, days, units, most, sold):
    """Return so many lawful days (arrived, left), with at most so many units in all, and a day's bounds of each."""
    told = numbers(seed)
    found, stock = [], 0
    for _ in range(days):
        arrived = min(units, next(told) % (most + 1))
        units -= arrived
        stock += arrived
        left = min(stock, next(told) % (sold + 1))
        stock -= left
        found.append((arrived, left))
    return found


def rich_logs():
    """Return logs of up to eight units, many of them with many choices."""
    found = [Log(mixed_days(seed, 5 + seed % 5, 6, 2, 1)) for seed in range(60)]
    return found + [
        Log([(1, 0)] * 5 + [(0, 1)] * 5),
        Log([(2, 0), (1, 1), (0, 1), (2, 0), (1, 2), (1, 1), (0, 1)]),
        Log([(2, 0), (0, 0), (2, 1), (0, 0), (1, 1), (0, 1), (0, 0)]),
        Log([(0, 0), (3, 1), (0, 2), (0, 0), (2, 0), (1, 2), (0, 0)]),
        Log([(1, 0), (0, 1)] * 3),
    ]


def logs_with_choices():
    """Return tuples of a small log and the list of all its choices."""
    logs = [log for log in all_small_logs() if len(log.days_in) <= 5] + rich_logs()
    return [(log, list(choices(log))) for log in logs]


def great_logs():
    """Return logs of up to sixty days and forty units."""
    found = [Log(mixed_days(seed, 60, 40, 2 + seed % 3, 1 + seed % 2)) for seed in range(8)]
    return found + [
        Log([(1, 0)] * 30 + [(0, 1)] * 30),
        Log([(2, 0)] * 20 + [(0, 0)] * 20 + [(0, 2)] * 20),
        Log([(20, 0)] + [(1, 1)] * 20 + [(0, 0)] * 39),
        Log([(1, 0)] * 40 + [(0, 0)] * 20),
        Log([(40, 0)] + [(0, 0)] * 58 + [(0, 40)]),
        Log([(0, 0)] * 60),
    ]


def priced(log, seed, below):
    """Return the days of a log with prices below a number, in no plain order."""
    told = numbers(seed)
    return [(tuple(next(told) % below for _ in range(arrived)), left) for arrived, left in log.days]


def joined(parts, ahead, between, behind):
    """Return the days of all parts, one behind the other, with so many empty days ahead, between and behind."""
    days = [(0, 0)] * ahead
    for at, part in enumerate(parts):
        days += ([(0, 0)] * between if at else []) + list(part)
    return days + [(0, 0)] * behind


def drawn_logs():
    """Return logs of one to three drawn parts, with empty days ahead, between and behind, of few and of many units."""
    found = []
    for seed in range(90):
        many = 1 + seed % 3
        units = (6 // many, 8 // many, 36 // many)[seed % 9 // 3]
        parts = [mixed_days(7 * seed + part, 4 + seed % 5, units, 2, 1 + seed % 4 // 3) for part in range(many)]
        found.append(Log(joined(parts, seed % 4, seed % 5, seed % 3)))
    return found


def mixed_choice(log, seed):
    """Return a choice of a log by selling units in no plain order."""
    told = numbers(seed)
    waiting, there, pairs = list(log.days_in), [], []
    for day_out in log.days_out:
        while waiting and waiting[0] <= day_out:
            there.append(waiting.pop(0))
        pairs.append((there.pop(next(told) % len(there)), day_out))
    return sorted(pairs)


def some_choices(log):
    """Return a few choices of a log, those by the two rules among them."""
    return [choice_by(log, "oldest"), choice_by(log, "newest")] + [mixed_choice(log, seed) for seed in range(3)]
