"""The examples of the document's interface, word for word."""

import unittest

from soldages import errors

LOGS = """
>>> from soldages.logs import ages_of, is_choice, Log
>>> log = Log.parse('2 0\\n1 1\\n0 1\\n1 2')
>>> choice = [(0, 1), (0, 3), (1, 2), (3, 3)]
>>> [log.days_in, log.days_out, log.stock(2), is_choice(log, choice), ages_of(choice)]
[(0, 0, 1, 3), (1, 2, 3, 3), 1, True, [0, 1, 1, 3]]

>>> from soldages.logs import Log
>>> Log.parse('1 0\\n0 2')
raises NotLawful(day=1)
"""

RULES = """
>>> from soldages.logs import Log
>>> from soldages.rules import choice_by, choices
>>> log = Log([(2, 0), (1, 1), (0, 1), (1, 2)])
>>> [choice_by(log, 'oldest'), choice_by(log, 'newest'), len(list(choices(log)))]
[[(0, 1), (0, 2), (1, 3), (3, 3)], [(0, 2), (0, 3), (1, 1), (3, 3)], 3]
"""

SPREAD = """
>>> from soldages.spread import compared, is_transfers, Table
>>> first, second = [0, 1, 2, 2], [0, 0, 2, 3]
>>> [compared(first, second), is_transfers(first, second, [(3, 0, 1)]), Table([(1, 5)]).cost(second)]
['less', True, 15]

>>> from soldages.spread import transfers
>>> transfers([1, 2], [1, 1])
raises NotComparable()
"""

EXCHANGES = """
>>> from soldages.exchanges import exchanged, kind_of
>>> choice = [(0, 2), (0, 3), (1, 1), (3, 3)]
>>> [kind_of((0, 3), (1, 1)), exchanged(choice, (0, 3), (1, 1)), kind_of((0, 2), (0, 3))]
['calming', [(0, 1), (0, 2), (1, 3), (3, 3)], 'none']
"""

PAIRS = """
>>> from soldages.logs import Log
>>> from soldages.pairs import is_possible, possible_ages, runs
>>> log = Log([(2, 0), (1, 1), (0, 1), (1, 2)])
>>> [is_possible(log, 1, 3), possible_ages(log, 3), runs(log), runs(Log([(1, 1), (1, 1)]))]
[True, (0, 2, 3), [(0, 3)], [(0, 0), (1, 1)]]
"""

THRESHOLDS = """
>>> from soldages.logs import Log
>>> from soldages.thresholds import bounds, choice_with_number
>>> log = Log([(2, 0), (1, 1), (0, 1), (1, 2)])
>>> [bounds(log, 2), bounds(log, 3), choice_with_number(log, 2, 1)]
[(1, 2), (0, 1), [(0, 1), (0, 3), (1, 2), (3, 3)]]

>>> from soldages.logs import Log
>>> from soldages.thresholds import choice_with_number
>>> choice_with_number(Log([(2, 0), (1, 1), (0, 1), (1, 2)]), 2, 0)
raises NoChoice(number=0)
"""

COSTS = """
>>> from soldages.costs import Goods
>>> goods = Goods([((5, 2), 0), ((9,), 1), ((), 1)])
>>> [goods.greatest(), goods.least(), goods.taken(2), goods.totals(2)]
[[0, 9, 14], [0, 2, 7], [9, 5], (7, 11, 14)]
"""

LAYERS = """
>>> from soldages.costs import Goods
>>> from soldages.layers import left_by_period, left_prices, value_of
>>> goods = Goods([((1,), 0), ((), 1), ((4,), 0)])
>>> [left_prices(goods, 'newest'), left_by_period(goods, 'newest', [2]), value_of(left_prices(goods, 'oldest'))]
[[4], [1], 4]
"""

SPOILING = """
>>> from soldages.spoiling import matching, never_worse, Shop
>>> shop = Shop(2, 'oldest')
>>> [shop.pass_day(3, 1), shop.pass_day(1, 1), shop.lives, never_worse([2, 3], [1, 3]), matching([2, 3], [1, 3])]
[(1, 0), (1, 1), (1,), True, [0, 1]]
"""

STORE = """
>>> from soldages.store import Store
>>> store = Store()
>>> steps = [store.arrive(2), store.next_day(), store.arrive(1), store.sell(0), store.sell_by('newest')]
>>> [steps, store.held, store.ages(), store.best(), store.worst()]
[[None, 1, None, 1, 0], (0,), [0, 1], [1, 1], [0, 1]]
"""

CONSOLE = """
>>> from soldages.console import Console
>>> console = Console()
>>> kept = console.answer('log a\\n2 0\\n1 1\\n0 1\\n1 2')
>>> [kept, console.answer('ages a newest'), console.answer('old a 2'), console.answer('can a 1 3')]
['ok', '0 0 2 3', '1 2', 'yes']
"""


def outcome(rows):
    """Execute the rows of an example and return its last row as the document writes it."""
    names = {}
    for row in rows[:-1]:
        exec(row, names)
    try:
        return repr(eval(rows[-1], names))
    except errors.StoreError as error:
        told = ", ".join(f"{name}={value!r}" for name, value in vars(error).items())
        return f"raises {type(error).__name__}({told})"


class ExamplesTest(unittest.TestCase):
    def check(self, text, many):
        examples = text.strip("\n").split("\n\n")
        self.assertEqual(len(examples), many)
        for example in examples:
            *rows, expected = example.split("\n")
            self.assertTrue(all(row.startswith(">>> ") for row in rows))
            self.assertEqual(outcome([row[4:] for row in rows]), expected)

    def test_logs(self):
        self.check(LOGS, 2)

    def test_rules(self):
        self.check(RULES, 1)

    def test_spread(self):
        self.check(SPREAD, 2)

    def test_exchanges(self):
        self.check(EXCHANGES, 1)

    def test_pairs(self):
        self.check(PAIRS, 1)

    def test_thresholds(self):
        self.check(THRESHOLDS, 2)

    def test_costs(self):
        self.check(COSTS, 1)

    def test_layers(self):
        self.check(LAYERS, 1)

    def test_spoiling(self):
        self.check(SPOILING, 1)

    def test_store(self):
        self.check(STORE, 1)

    def test_console(self):
        self.check(CONSOLE, 1)


if __name__ == "__main__":
    unittest.main()
