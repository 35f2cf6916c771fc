"""Point 14: what is left by the two rules, by each sale and by the period, and what it is worth."""

import unittest
from itertools import product

from soldages.costs import Goods
from soldages.layers import left_by_period, left_prices, value_of
from tests.values import all_small_logs, great_logs, priced, rich_logs

RULES = ("oldest", "newest")
THREE = Goods([((1, 2, 3), 1), ((4, 5), 2), ((), 1), ((6,), 0)])


def ends_of(days):
    """Return all lists of last days of periods of so many days."""
    marks = product((False, True), repeat=days - 1)
    return [[day for day in range(days) if day == days - 1 or chosen[day]] for chosen in marks]


def left_units(goods, rule, ends):
    """Return the prices that are left, taking one unit after another by its day and its place in the tuple."""
    there, first = [], 0
    for end in ends:
        days = range(first, end + 1)
        there += [(day, place, price) for day in days for place, price in enumerate(goods.days[day][0])]
        for _ in range(sum(goods.days[day][1] for day in days)):
            there.remove(min(there) if rule == "oldest" else max(there))
        first = end + 1
    return [price for _, _, price in sorted(there)]


def goods_to_try():
    """Return small goods with prices of many kinds."""
    found = []
    for seed, log in enumerate(all_small_logs() + rich_logs()):
        found += [Goods(priced(log, seed, below)) for below in (2, 1000)]
    return found


class EachSaleTest(unittest.TestCase):
    def test_both_rules(self):
        self.assertEqual(left_prices(THREE, "oldest"), [5, 6])
        self.assertEqual(left_prices(goods=THREE, rule="newest"), [1, 6])

    def test_units_of_one_day_in_the_order_of_the_tuple(self):
        goods = Goods([((7, 9, 7, 8), 2)])
        self.assertEqual(left_prices(goods, "oldest"), [7, 8])
        self.assertEqual(left_prices(goods, "newest"), [7, 9])
        goods = Goods([((3, 1), 0), ((2, 9, 4), 0), ((), 3)])
        self.assertEqual(left_prices(goods, "oldest"), [9, 4])
        self.assertEqual(left_prices(goods, "newest"), [3, 1])
        goods = Goods([((3, 1), 0), ((2, 9, 4), 1)])
        self.assertEqual(left_prices(goods, "oldest"), [1, 2, 9, 4])
        self.assertEqual(left_prices(goods, "newest"), [3, 1, 2, 9])

    def test_equal_prices_and_great_ones(self):
        goods = Goods([((5, 5), 1), ((10 ** 6, 0, 5), 1)])
        self.assertEqual(left_prices(goods, "oldest"), [10 ** 6, 0, 5])
        self.assertEqual(left_prices(goods, "newest"), [5, 10 ** 6, 0])

    def test_nothing_left_nothing_sold_nothing_there(self):
        for rule in RULES:
            self.assertEqual(left_prices(Goods([((4, 2), 0), ((3,), 3)]), rule), [])
            self.assertEqual(left_prices(Goods([((4, 2), 0), ((3,), 0)]), rule), [4, 2, 3])
            self.assertEqual(left_prices(Goods([((), 0)] * 60), rule), [])
            self.assertEqual(left_by_period(Goods([((), 0)] * 3), rule, [0, 2]), [])

    def test_the_closing_is_no_sale(self):
        goods = Goods([((1, 2), 0), ((3,), 1)])
        self.assertEqual([left_prices(goods, rule) for rule in RULES], [[2, 3], [1, 2]])

    def test_all_small_goods(self):
        for goods in goods_to_try():
            each = list(range(len(goods.days)))
            for rule in RULES:
                self.assertEqual(left_prices(goods, rule), left_units(goods, rule, each))

    def test_great_goods(self):
        for seed, log in enumerate(great_logs()):
            goods = Goods(priced(log, seed, 30000))
            each = list(range(len(goods.days)))
            for rule in RULES:
                self.assertEqual(left_prices(goods, rule), left_units(goods, rule, each))


class PeriodTest(unittest.TestCase):
    def test_one_period(self):
        self.assertEqual(left_by_period(THREE, "oldest", [3]), [5, 6])
        self.assertEqual(left_by_period(goods=THREE, rule="newest", ends=[3]), [1, 2])

    def test_a_period_for_each_day(self):
        for rule in RULES:
            self.assertEqual(left_by_period(THREE, rule, [0, 1, 2, 3]), left_prices(THREE, rule))

    def test_some_periods(self):
        self.assertEqual(left_by_period(THREE, "newest", [0, 3]), [1, 2])
        self.assertEqual(left_by_period(THREE, "newest", [1, 3]), [1, 2])
        self.assertEqual(left_by_period(THREE, "newest", [2, 3]), [1, 6])
        self.assertEqual(left_by_period(THREE, "newest", [1, 2, 3]), [1, 6])
        goods = Goods([((1, 2), 0), ((), 1), ((3, 4), 0), ((), 1)])
        self.assertEqual(left_by_period(goods, "newest", [3]), [1, 2])
        self.assertEqual(left_by_period(goods, "newest", [1, 3]), [1, 3])
        self.assertEqual(left_by_period(goods, "newest", [0, 3]), [1, 2])
        self.assertEqual(left_by_period(goods, "newest", [2, 3]), [1, 2])

    def test_a_period_without_sales(self):
        goods = Goods([((1,), 1), ((2, 3), 0), ((4,), 0), ((), 2)])
        self.assertEqual(left_by_period(goods, "newest", [0, 2, 3]), [2])
        self.assertEqual(left_by_period(goods, "oldest", [0, 2, 3]), [4])
        for rule in RULES:
            self.assertEqual(left_by_period(Goods([((5, 4), 0), ((3,), 0)]), rule, [0, 1]), [5, 4, 3])

    def test_ends_as_a_list_and_as_a_tuple(self):
        ends = [1, 3]
        for rule in RULES:
            self.assertEqual(left_by_period(THREE, rule, (1, 3)), left_by_period(THREE, rule, ends))
        self.assertEqual(ends, [1, 3])
        self.assertEqual(left_by_period(THREE, "newest", (3,)), [1, 2])

    def test_all_small_goods_and_all_periods(self):
        for goods in goods_to_try():
            if len(goods.days) <= 6:
                for ends in ends_of(len(goods.days)):
                    for rule in RULES:
                        self.assertEqual(left_by_period(goods, rule, ends), left_units(goods, rule, ends))

    def test_great_goods(self):
        for seed, log in enumerate(great_logs()):
            goods = Goods(priced(log, seed, 30000))
            last = len(goods.days) - 1
            for step in (1, 2, 7, 13, 59):
                ends = [*range(0, last, step), last]
                for rule in RULES:
                    self.assertEqual(left_by_period(goods, rule, ends), left_units(goods, rule, ends))

    def test_the_oldest_first_is_equal_for_all_periods(self):
        for goods in goods_to_try():
            if len(goods.days) <= 6:
                left = left_prices(goods, "oldest")
                for ends in ends_of(len(goods.days)):
                    self.assertEqual(left_by_period(goods, "oldest", ends), left)


class KindsTest(unittest.TestCase):
    def test_goods_with_lists_and_with_tuples(self):
        days = [([1, 2, 3], 1), ([4, 5], 2), ([], 1), ([6], 0)]
        for goods in (Goods(days), Goods(tuple(days)), Goods([(tuple(prices), left) for prices, left in days])):
            self.assertEqual([left_prices(goods, rule) for rule in RULES], [[5, 6], [1, 6]])
            self.assertEqual([left_by_period(goods, rule, [3]) for rule in RULES], [[5, 6], [1, 2]])

    def test_new_lists_and_goods_that_do_not_change(self):
        goods = Goods([((1, 2, 3), 1), ((), 0)])
        for rule, kept in (("oldest", [2, 3]), ("newest", [1, 2])):
            calls = (
                lambda: left_prices(goods, rule),
                lambda: left_by_period(goods, rule, [1]),
                lambda: left_by_period(goods, rule, [0, 1]),
            )
            for call in calls:
                found = call()
                self.assertIs(type(found), list)
                self.assertEqual(found, kept)
                found[0] = 99
                found.append(1)
                self.assertEqual(call(), kept)
        self.assertEqual(goods.days, (((1, 2, 3), 1), ((), 0)))
        self.assertEqual(goods.taken(1), [3])

    def test_value(self):
        self.assertEqual(value_of([]), 0)
        self.assertEqual(value_of(()), 0)
        self.assertEqual(value_of(prices=[5]), 5)
        self.assertEqual(value_of((3, 0, 4)), 7)
        self.assertEqual(value_of([10 ** 6] * 40), 40 * 10 ** 6)
        prices = [2, 1, 2]
        self.assertEqual(value_of(prices), 5)
        self.assertEqual(prices, [2, 1, 2])


if __name__ == "__main__":
    unittest.main()
