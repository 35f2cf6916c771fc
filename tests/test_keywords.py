"""Point 3 and the interface: arguments by position and by the names shown, in any order, that are not changed."""

import copy
import unittest

from soldages import errors
from soldages.console import Console
from soldages.costs import Goods
from soldages.exchanges import chain, exchanged, is_chain, kind_of, path
from soldages.layers import left_by_period, left_prices, value_of
from soldages.logs import ages_of, is_choice, Log
from soldages.pairs import choice_with, is_possible, possible_ages, runs
from soldages.rules import choice_by, choices
from soldages.spoiling import matching, never_worse, Shop
from soldages.spread import compared, is_transfers, Table, transfers
from soldages.store import Store
from soldages.thresholds import bounds, choice_with_number, is_prices, prices_for

DAYS = [(2, 0), (1, 1), (0, 1), (1, 2)]
LOG = Log(DAYS)
OLDEST = [(0, 1), (0, 2), (1, 3), (3, 3)]
NEWEST = [(0, 2), (0, 3), (1, 1), (3, 3)]
PRICED = [([5, 2], 0), ((9,), 1), ((), 1)]
GOODS = Goods(PRICED)
PRICES = ({0: 1, 1: 1, 3: 0}, {1: -1, 2: 0, 3: 0})

# What is called, its arguments in the order shown, those that go by name alone, and its result.
CALLS = [
    (Log, {"days": DAYS}, {}, LOG),
    (Log.parse, {"text": "2 0\n1 1\n0 1\n1 2"}, {}, LOG),
    (LOG.stock, {"day": 2}, {}, 1),
    (is_choice, {"log": LOG, "value": OLDEST}, {}, True),
    (ages_of, {"choice": OLDEST}, {}, [0, 1, 2, 2]),
    (choice_by, {"log": LOG, "rule": "newest"}, {}, NEWEST),
    (Table, {"entries": [(1, 5)]}, {}, Table([(1, 5)])),
    (Table([(1, 5)]).cost, {"ages": [0, 0, 2, 3]}, {}, 15),
    (transfers, {"first": [1, 3], "second": [0, 4]}, {}, [(4, 0, 1)]),
    (is_transfers, {"first": [1, 3], "second": [0, 4], "value": [(4, 0, 1)]}, {}, True),
    (compared, {"first": [1, 3], "second": [0, 4]}, {}, "less"),
    (exchanged, {"choice": NEWEST, "first": (0, 3), "second": (1, 1)}, {}, OLDEST),
    (kind_of, {"first": (0, 3), "second": (1, 1)}, {}, "calming"),
    (chain, {"log": LOG, "choice": OLDEST, "rule": "oldest"}, {}, [OLDEST]),
    (is_chain, {"log": LOG, "value": [NEWEST, OLDEST]}, {}, True),
    (path, {"log": Log([(0, 0)]), "first": [], "second": []}, {}, [[]]),
    (is_possible, {"log": LOG, "day_in": 1, "day_out": 3}, {}, True),
    (choice_with, {"log": LOG, "day_in": 1, "day_out": 1}, {}, NEWEST),
    (possible_ages, {"log": LOG, "day_out": 3}, {}, (0, 2, 3)),
    (runs, {"log": LOG}, {}, [(0, 3)]),
    (bounds, {"log": LOG, "level": 2}, {}, (1, 2)),
    (choice_with_number, {"log": LOG, "level": 2, "number": 1}, {}, [(0, 1), (0, 3), (1, 2), (3, 3)]),
    (prices_for, {"log": Log([(0, 0)]), "level": 2}, {"least": True}, ({}, {})),
    (is_prices, {"log": LOG, "level": 2, "value": PRICES}, {"least": False}, True),
    (is_prices, {"log": LOG, "level": 2, "value": PRICES}, {"least": True}, False),
    (GOODS.taken, {"count": 1}, {"dearest": False}, [2]),
    (GOODS.totals, {"count": 2}, {}, (7, 11, 14)),
    (left_prices, {"goods": GOODS, "rule": "oldest"}, {}, [9]),
    (left_by_period, {"goods": GOODS, "rule": "newest", "ends": [2]}, {}, [5]),
    (value_of, {"prices": [5, 2]}, {}, 7),
    (never_worse, {"first": [2, 3], "second": [3, 1]}, {}, True),
    (matching, {"first": [2, 3], "second": [3, 1]}, {}, [1, 0]),
]


def ways(call, values, named):
    """Yield what a call gives by position, by name, in the opposite order and with the first value by position."""
    yield call(*values.values(), **named)
    yield call(**values, **named)
    yield call(**dict(reversed([*values.items(), *named.items()])))
    first, *others = values
    yield call(values[first], **dict(reversed([(name, values[name]) for name in others])), **named)


class KeywordsTest(unittest.TestCase):
    def test_functions_and_classes(self):
        for call, values, named, expected in CALLS:
            kept = copy.deepcopy([[one for one in values.values() if not isinstance(one, (Log, Goods))], expected])
            for found in ways(call, values, named):
                self.assertEqual(found, expected, call)
                self.assertIs(type(found), type(expected))
            self.assertEqual([[one for one in values.values() if not isinstance(one, (Log, Goods))], expected], kept)
        self.assertEqual((LOG.days, GOODS.days), (tuple(DAYS), (((5, 2), 0), ((9,), 1), ((), 1))))

    def test_results_are_new_lists(self):
        for call, values, named, expected in CALLS:
            if isinstance(expected, list):
                kept = copy.deepcopy(expected)
                found = call(**values, **named)
                self.assertTrue(all(found is not one for one in values.values()))
                for part in found:
                    if isinstance(part, list):
                        part.clear()
                found.append(None)
                self.assertEqual(call(**values, **named), kept)

    def test_choices(self):
        for found in (choices(LOG), choices(log=LOG)):
            self.assertEqual(list(found), [OLDEST, [(0, 1), (0, 3), (1, 2), (3, 3)], NEWEST])

    def test_goods(self):
        for goods in ways(Goods, {"days": PRICED}, {}):
            self.assertEqual((goods.days, goods.plain), (GOODS.days, GOODS.plain))
        self.assertEqual(PRICED, [([5, 2], 0), ((9,), 1), ((), 1)])

    def test_shops(self):
        for shop in ways(Shop, {"life": 3, "rule": "newest"}, {"stock": [3, 1]}):
            self.assertEqual(shop.pass_day(demanded=1, arrived=2), (1, 1))
            self.assertEqual(shop.lives, (2, 2))
            self.assertEqual(shop.pass_day(2, demanded=1), (1, 0))
            self.assertEqual(shop.lives, (1, 1, 2))

    def test_stores_and_consoles(self):
        store = Store()
        self.assertIsNone(store.arrive(count=2))
        self.assertEqual([store.sell(day_in=0), store.sell_by(rule="oldest")], [0, 0])
        self.assertEqual(Console().answer(row="names"), "none")

    def test_values_behind_the_star_go_by_name_alone(self):
        for call, values in (
            (prices_for, (LOG, 2, True)), (is_prices, (LOG, 2, PRICES, False)), (GOODS.taken, (1, False)),
            (Shop, (3, "newest", [3])),
        ):
            with self.assertRaises(TypeError):
                call(*values)

    def test_errors_of_calls_by_name(self):
        store = Store()
        for error, attributes, call, values in (
            (errors.NotLawful, {"day": 0}, Log, {"days": [(0, 1)]}),
            (errors.NotLawful, {"day": 1}, Goods, {"days": [((), 0), ((), 1)]}),
            (errors.InvalidText, {"row": 1}, Log.parse, {"text": "1 0\n"}),
            (errors.NotComparable, {}, transfers, {"second": [1], "first": [2]}),
            (errors.MoreSpread, {"level": 1}, transfers, {"second": [1, 1], "first": [2, 0]}),
            (errors.NoChoice, {"number": 0}, choice_with_number, {"number": 0, "level": 2, "log": LOG}),
            (errors.TooLarge, {"count": 13}, Goods([((1,) * 13, 0)]).totals, {"count": 0}),
            (errors.NotThere, {"day": 5}, store.sell, {"day_in": 5}),
            (errors.NotThere, {"day": 0}, store.sell_by, {"rule": "newest"}),
            (errors.InvalidRow, {"row": "x"}, Console().answer, {"row": "x"}),
            (errors.UnknownName, {"name": "x"}, Console().answer, {"row": "show x"}),
        ):
            with self.assertRaises(error) as caught:
                call(**values)
            self.assertEqual(vars(caught.exception), attributes)


if __name__ == "__main__":
    unittest.main()
