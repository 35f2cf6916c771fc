"""Values of any kind and small logs, for several tests."""

from itertools import product

from soldages.errors import NotLawful
from soldages.logs import Log


def deep(size):
    """Return a list in a list and so on, so many levels deep."""
    value = []
    for _ in range(size):
        value = [value]
    return value


ANY_VALUES = [
    0, 1, -1, True, False, None, "", "ab", "[(0, 0)]", (), {}, {0: 1}, {(0, 0): 1},
    [None], [0], [True], ["ab"], ["abc"], [()], [[]], [{}], [(0,)], [(None, None)], [("a", "b")], [([], [])],
    [((0,), (0,))], [(0, 0, 0, 0)], [({}, {}, {})], [(0, 0), None], ((0, 0),), deep(50),
]


def lawful_logs(days, units):
    """Yield each lawful log of so many days with numbers up to the number of units."""
    rows = list(product(range(units + 1), repeat=2))
    for chosen in product(rows, repeat=days):
        try:
            yield Log(chosen)
        except NotLawful:
            pass


def all_small_logs():
    """Return the lawful logs of up to four days with numbers that stay small."""
    found = [*lawful_logs(1, 4), *lawful_logs(2, 3), *lawful_logs(3, 2), *lawful_logs(4, 1)]
    assert len(found) > 400
    return found
