"""Point 13: logs with prices, and what the units cost that are sold first."""

import unittest

from soldages.costs import Goods
from soldages.errors import NotLawful, TooLarge
from soldages.logs import Log
from tests.values import all_small_logs, great_logs, priced, rich_logs

THREE = [((5, 2), 0), ((9,), 1), ((), 1)]
GREAT = 10 ** 6


def sets_by_selling(goods):
    """Return for each number of sales all sets of units, as tuples of their places, that can be sold first."""
    found = [{()}]
    arrived = 0
    for prices, left in goods.days:
        arrived += len(prices)
        for _ in range(left):
            found.append({
                tuple(sorted((*there, unit))) for there in found[-1] for unit in range(arrived) if unit not in there
            })
    return found


def goods_to_try():
    """Return small logs with prices of many kinds."""
    found = []
    for seed, log in enumerate(all_small_logs() + rich_logs()):
        for below in (2, 5, 1000):
            found.append(Goods(priced(log, seed, below)))
    return found


class GoodsTest(unittest.TestCase):
    def check_unlawful(self, days, day):
        with self.assertRaises(NotLawful) as caught:
            Goods(days)
        self.assertEqual(caught.exception.day, day)

    def test_attributes(self):
        goods = Goods(THREE)
        self.assertEqual(goods.days, (((5, 2), 0), ((9,), 1), ((), 1)))
        self.assertIs(type(goods.plain), Log)
        self.assertEqual(goods.plain, Log([(2, 0), (1, 1), (0, 1)]))
        self.assertEqual(Goods([((), 0)]).days, (((), 0),))
        self.assertEqual(Goods([((GREAT,) * 40, 40)] + [((), 0)] * 59).plain, Log([(40, 40)] + [(0, 0)] * 59))

    def test_not_lawful(self):
        self.check_unlawful([((), 1)], 0)
        self.check_unlawful([((1, 2), 3)], 0)
        self.check_unlawful([((1,), 0), ((), 2), ((5, 5), 0)], 1)
        self.check_unlawful([((1,), 1), ((), 0), ([], 1), ((), 1)], 2)
        self.check_unlawful([((), 0)] * 59 + [((1,), 2)], 59)
        self.check_unlawful([((1,), 10 ** 5000)], 0)

    def test_lists_tuples_and_copies(self):
        prices = [5, 2]
        days = [(prices, 0), ([9], 1), ((), 1)]
        goods = Goods(days)
        same = Goods(days=tuple(days))
        self.assertEqual(days, [([5, 2], 0), ([9], 1), ((), 1)])
        prices[0] = 70
        prices.append(8)
        days[1] = ((1, 1), 0)
        days.append(((), 0))
        for one in (goods, same, Goods(tuple(THREE))):
            self.assertEqual(one.days, (((5, 2), 0), ((9,), 1), ((), 1)))
            self.assertIs(type(one.days), tuple)
            self.assertTrue(all(type(day) is tuple and type(day[0]) is tuple for day in one.days))
            self.assertEqual(one.plain, Log([(2, 0), (1, 1), (0, 1)]))
            self.assertEqual([one.greatest(), one.least(), one.totals(2)], [[0, 9, 14], [0, 2, 7], (7, 11, 14)])


class CostsTest(unittest.TestCase):
    def test_costs(self):
        goods = Goods(THREE)
        self.assertEqual(goods.greatest(), [0, 9, 14])
        self.assertEqual(goods.least(), [0, 2, 7])
        self.assertEqual([goods.taken(count) for count in range(3)], [[], [9], [9, 5]])
        self.assertEqual([goods.taken(count=count, dearest=False) for count in range(3)], [[], [2], [5, 2]])
        self.assertEqual(goods.taken(2, dearest=True), [9, 5])
        self.assertEqual([goods.totals(count=count) for count in range(3)], [(0,), (2, 5, 9), (7, 11, 14)])

    def test_no_sales(self):
        for goods in (Goods([((), 0)]), Goods([((4, 3), 0), ((), 0)])):
            self.assertEqual([goods.greatest(), goods.least(), goods.taken(0), goods.totals(0)], [[0], [0], [], (0,)])
            self.assertEqual(goods.taken(0, dearest=False), [])

    def test_the_closing_does_not_count(self):
        goods = Goods([((7, 1, 3), 1), ((), 0)])
        self.assertEqual([goods.greatest(), goods.least(), goods.totals(1)], [[0, 7], [0, 1], (1, 3, 7)])

    def test_equal_rising_falling_and_great_prices(self):
        equal = Goods([((4, 4), 1), ((4,), 2)])
        self.assertEqual([equal.greatest(), equal.least(), equal.taken(3)], [[0, 4, 8, 12], [0, 4, 8, 12], [4, 4, 4]])
        self.assertEqual(equal.totals(2), (8,))
        rising = Goods([((1, 2), 1), ((3, 4), 2), ((), 1)])
        self.assertEqual(rising.greatest(), [0, 2, 6, 9, 10])
        self.assertEqual(rising.least(), [0, 1, 3, 6, 10])
        self.assertEqual(rising.taken(3), [4, 3, 2])
        self.assertEqual(rising.taken(3, dearest=False), [3, 2, 1])
        falling = Goods([((9, 8), 1), ((3, 1), 2), ((), 0)])
        self.assertEqual(falling.greatest(), [0, 9, 17, 20])
        self.assertEqual(falling.least(), [0, 8, 9, 12])
        self.assertEqual(falling.taken(2), [9, 8])
        self.assertEqual(falling.taken(2, dearest=False), [8, 1])
        great = Goods([((GREAT,) * 40, 40)])
        self.assertEqual(great.greatest(), [GREAT * count for count in range(41)])
        self.assertEqual(great.least(), great.greatest())
        self.assertEqual(great.taken(40), [GREAT] * 40)
        self.assertEqual(Goods([((0, GREAT, 0), 2)]).totals(2), (0, GREAT))

    def test_a_later_unit_is_not_sold_early(self):
        goods = Goods([((1,), 1), ((100,), 0), ((50,), 2)])
        self.assertEqual(goods.greatest(), [0, 1, 101, 151])
        self.assertEqual([goods.totals(count) for count in range(4)], [(0,), (1,), (51, 101), (151,)])

    def test_small_goods_by_all_sets(self):
        for goods in goods_to_try():
            prices = [price for day, _ in goods.days for price in day]
            falling = [
                [sorted((prices[unit] for unit in units), reverse=True) for units in sets]
                for sets in sets_by_selling(goods)
            ]
            totals = [sorted({sum(told) for told in lists}) for lists in falling]
            self.assertEqual(goods.greatest(), [told[-1] for told in totals])
            self.assertEqual(goods.least(), [told[0] for told in totals])
            for count, lists in enumerate(falling):
                self.assertEqual(goods.totals(count), tuple(totals[count]))
                self.check_taken(goods, count, lists)

    def check_taken(self, goods, count, lists):
        """The dearest taken are place by place at least those of each set, and the cheapest at most."""
        dear, cheap = goods.taken(count), goods.taken(count, dearest=False)
        self.assertEqual(dear, [max(told[place] for told in lists) for place in range(count)])
        self.assertEqual(cheap, [min(told[place] for told in lists) for place in range(count)])
        self.assertIn(dear, lists)
        self.assertIn(cheap, lists)

    def test_great_goods(self):
        for seed, log in enumerate(great_logs()):
            goods = Goods(priced(log, seed, 30000))
            sales = sum(left for _, left in log.days)
            for costs, dearest in ((goods.greatest(), True), (goods.least(), False)):
                self.assertEqual(costs, [sum(goods.taken(count, dearest=dearest)) for count in range(sales + 1)])
            for low, high in zip(goods.taken(sales, dearest=False), goods.taken(sales)):
                self.assertLessEqual(low, high)
            falling = goods.taken(sales)
            self.assertEqual(falling, sorted(falling, reverse=True))

    def test_too_large(self):
        for days, units in (
            ([((1,) * 13, 0)], 13),
            ([((1,) * 12, 12), ((2,), 1)], 13),
            ([((5,), 1)] * 40, 40),
        ):
            goods = Goods(days)
            for count in (0, 1):
                with self.assertRaises(TooLarge) as caught:
                    goods.totals(min(count, days[0][1]))
                self.assertEqual(caught.exception.count, units)
            self.assertEqual(goods.greatest()[0], 0)

    def test_twelve_units(self):
        goods = Goods([(tuple(2 ** place for place in range(12)), 6)])
        found = goods.totals(6)
        self.assertEqual(found, tuple(number for number in range(4096) if bin(number).count("1") == 6))
        self.assertEqual(Goods([((1,), 1)] * 12).totals(12), (12,))
        self.assertEqual(Goods([((1, 2), 0)] * 6 + [((), 12)]).totals(7), (8, 9, 10, 11, 12, 13))

    def test_kinds_and_new_lists(self):
        goods = Goods(THREE)
        self.assertIs(type(goods.totals(1)), tuple)
        for call in (goods.greatest, goods.least, lambda: goods.taken(2), lambda: goods.taken(2, dearest=False)):
            found = call()
            self.assertIs(type(found), list)
            kept = list(found)
            found.append(1)
            found[0] = 99
            self.assertEqual(call(), kept)
        self.assertEqual(goods.days, (((5, 2), 0), ((9,), 1), ((), 1)))

    def test_dearest_is_passed_by_its_name(self):
        with self.assertRaises(TypeError):
            Goods(THREE).taken(2, False)


if __name__ == "__main__":
    unittest.main()
