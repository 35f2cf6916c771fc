"""Points 15 and 16: shops whose units spoil, and stocks that are never worse than others."""

import unittest
from itertools import combinations_with_replacement, product

from soldages.errors import Worse
from soldages.spoiling import matching, never_worse, Shop
from tests.values import numbers

RULES = ("oldest", "newest")


def ages_after(ages, life, rule, arrived, demanded):
    """Return what a day makes of the ages of units: (ages, served, spoiled)."""
    there = ages + [0] * arrived
    served = 0
    while there and served < demanded:
        there.remove(max(there) if rule == "oldest" else min(there))
        served += 1
    older = [age + 1 for age in there]
    kept = [age for age in older if age < life]
    return kept, served, len(older) - len(kept)


def served_by(stock, future, arrivals=None):
    """Return the numbers served up to each day of a future by the oldest first; arrivals have lives of their own."""
    there, total, found = list(stock), 0, []
    for day, demanded in enumerate(future):
        there = sorted(there + (list(arrivals[day]) if arrivals else []))
        served = min(demanded, len(there))
        total += served
        found.append(total)
        there = [life - 1 for life in there[served:] if life > 1]
    return found


def all_served(life, days):
    """Return the numbers served up to each day by all rules that serve whenever they can, as a set of tuples."""
    states = {((), ())}
    for arrived, demanded in days:
        later = set()
        for there, told in states:
            units = tuple(sorted(there + (life,) * arrived))
            served = min(demanded, len(units))
            total = (told[-1] if told else 0) + served
            for kept in kept_after(units, served):
                later.add((tuple(one - 1 for one in kept if one > 1), told + (total,)))
        states = later
    return {told for _, told in states}


def kept_after(units, served):
    """Return the different ways to take so many units out of an ascending tuple, as the tuples that are left."""
    found = {units}
    for _ in range(served):
        found = {kept[:place] + kept[place + 1:] for kept in found for place in range(len(kept))}
    return found


def small_stocks(size, life):
    """Return all ascending stocks up to a size with lives up to one."""
    lives = range(1, life + 1)
    return [list(stock) for many in range(size + 1) for stock in combinations_with_replacement(lives, many)]


def drawn_stock(told, size, life):
    """Return a drawn stock in no plain order."""
    return [1 + next(told) % life for _ in range(size)]


class ShopTest(unittest.TestCase):
    def test_days_by_both_rules(self):
        days = [(0, 0), (1, 1), (2, 1), (0, 3)]
        for rule, told, lives in (
            ("oldest", [(0, 1), (1, 0), (1, 0), (3, 0)], [(1, 2), (1, 2), (1, 2, 2), ()]),
            ("newest", [(0, 1), (1, 1), (1, 1), (1, 0)], [(1, 2), (1,), (2,), ()]),
        ):
            shop = Shop(3, rule, stock=[1, 3, 2])
            for day, expected in enumerate(told):
                self.assertEqual(shop.pass_day(*days[day]), expected)
                self.assertEqual(shop.lives, lives[day])
                self.assertEqual(shop.served, sum(served for served, _ in told[:day + 1]))
                self.assertEqual(shop.spoiled, sum(spoiled for _, spoiled in told[:day + 1]))

    def test_lives_served_and_spoiled_at_first(self):
        for rule in RULES:
            shop = Shop(5, rule)
            self.assertEqual((shop.lives, shop.served, shop.spoiled), ((), 0, 0))
            shop = Shop(5, rule, stock=(5, 1, 3, 1))
            self.assertEqual((shop.lives, shop.served, shop.spoiled), ((1, 1, 3, 5), 0, 0))
            self.assertIs(type(shop.lives), tuple)
            self.assertEqual(Shop(5, rule, stock=()).lives, ())
            self.assertEqual(Shop(5, rule, stock=[]).lives, ())

    def test_names_of_the_parameters(self):
        shop = Shop(stock=[2, 1], rule="newest", life=2)
        self.assertEqual(shop.pass_day(demanded=1, arrived=0), (1, 1))
        with self.assertRaises(TypeError):
            Shop(2, "oldest", [1])

    def test_a_life_of_one(self):
        for rule in RULES:
            shop = Shop(1, rule, stock=[1, 1])
            self.assertEqual(shop.pass_day(3, 4), (4, 1))
            self.assertEqual(shop.pass_day(2, 0), (0, 2))
            self.assertEqual(shop.pass_day(0, 5), (0, 0))
            self.assertEqual(shop.pass_day(2, 2), (2, 0))
            self.assertEqual((shop.lives, shop.served, shop.spoiled), ((), 6, 3))

    def test_a_life_of_a_hundred(self):
        for rule in RULES:
            shop = Shop(100, rule, stock=[100, 1])
            self.assertEqual(shop.pass_day(1, 0), (0, 1))
            for left in range(99, 1, -1):
                self.assertEqual(shop.lives, (left, left))
                self.assertEqual(shop.pass_day(0, 0), (0, 0))
            self.assertEqual(shop.lives, (1, 1))
            self.assertEqual(shop.pass_day(0, 1), (1, 1))
            self.assertEqual((shop.lives, shop.served, shop.spoiled), ((), 1, 2))

    def test_few_and_many(self):
        shop = Shop(2, "oldest", stock=[1, 2])
        self.assertEqual(shop.pass_day(0, 100), (2, 0))
        self.assertEqual(shop.pass_day(100, 0), (0, 0))
        self.assertEqual(shop.lives, (1,) * 100)
        self.assertEqual(shop.pass_day(100, 50), (50, 50))
        self.assertEqual(shop.pass_day(100, 100), (100, 0))
        self.assertEqual(shop.pass_day(0, 99), (99, 1))
        self.assertEqual((shop.lives, shop.served, shop.spoiled), ((), 251, 51))

    def test_what_is_demanded_today_is_served_before_it_spoils(self):
        for rule in RULES:
            shop = Shop(3, rule, stock=[1])
            self.assertEqual(shop.pass_day(0, 1), (1, 0))
            shop = Shop(3, rule, stock=[1])
            self.assertEqual(shop.pass_day(0, 0), (0, 1))

    def test_what_arrives_today_can_be_served_today(self):
        for rule in RULES:
            self.assertEqual(Shop(1, rule).pass_day(2, 2), (2, 0))
            self.assertEqual(Shop(2, rule).pass_day(2, 3), (2, 0))

    def test_demand_that_is_lost_does_not_come_back(self):
        shop = Shop(2, "oldest")
        self.assertEqual(shop.pass_day(0, 7), (0, 0))
        self.assertEqual(shop.pass_day(5, 1), (1, 0))
        self.assertEqual(shop.lives, (1,) * 4)

    def test_drawn_days_by_counting_ages(self):
        for seed in range(60):
            told = numbers(seed)
            life, rule = (1, 2, 3, 7, 100)[seed % 5], RULES[seed % 2]
            stock = drawn_stock(told, seed % 4 * 25, life)
            shop = Shop(life, rule, stock=stock)
            ages, served, spoiled = [life - one for one in stock], 0, 0
            for _ in range(30):
                arrived, demanded = next(told) % (1 + seed), next(told) % (1 + seed)
                ages, today, gone = ages_after(ages, life, rule, arrived, demanded)
                served, spoiled = served + today, spoiled + gone
                self.assertEqual(shop.pass_day(arrived, demanded), (today, gone))
                self.assertEqual(shop.lives, tuple(sorted(life - age for age in ages)))
                self.assertEqual((shop.served, shop.spoiled), (served, spoiled))

    def test_the_stock_is_copied(self):
        for stock in ([3, 1, 2], (3, 1, 2)):
            shop = Shop(3, "oldest", stock=stock)
            other = Shop(3, "newest", stock=stock)
            self.assertEqual(list(stock), [3, 1, 2])
            if isinstance(stock, list):
                stock[0] = 1
                stock.append(1)
            self.assertEqual(shop.pass_day(0, 1), (1, 0))
            self.assertEqual(shop.lives, (1, 2))
            self.assertEqual((other.lives, other.served), ((1, 2, 3), 0))
            self.assertEqual(other.pass_day(0, 1), (1, 1))
            self.assertEqual((shop.lives, other.lives), ((1, 2), (1,)))

    def test_a_sorted_stock_is_copied_too(self):
        stock = [1, 2, 3]
        shop = Shop(3, "oldest", stock=stock)
        stock.clear()
        self.assertEqual(shop.lives, (1, 2, 3))
        stock = [1, 2, 3]
        Shop(3, "oldest", stock=stock).pass_day(2, 1)
        self.assertEqual(stock, [1, 2, 3])

    def test_results_are_tuples(self):
        found = Shop(2, "newest").pass_day(3, 1)
        self.assertIs(type(found), tuple)
        self.assertTrue(all(type(one) is int for one in found))


class RulesTest(unittest.TestCase):
    def test_oldest_first_serves_most_and_newest_first_least(self):
        rows = list(product(range(3), repeat=2))
        for life in (1, 2, 3):
            for days in product(rows, repeat=3):
                every = all_served(life, days)
                for rule, bound in (("oldest", max), ("newest", min)):
                    shop = Shop(life, rule)
                    told = []
                    for arrived, demanded in days:
                        shop.pass_day(arrived, demanded)
                        told.append(shop.served)
                    self.assertEqual(told, [bound(one[day] for one in every) for day in range(3)])

    def test_the_rules_differ(self):
        days = [(2, 0), (1, 1), (0, 2)]
        self.assertEqual(all_served(2, days), {(0, 1, 2), (0, 1, 1)})


class NeverWorseTest(unittest.TestCase):
    def check_better(self, first, second):
        self.assertIs(never_worse(first, second), True)
        found = matching(first, second)
        self.assertIs(type(found), list)
        self.assertEqual(len(found), len(second))
        self.assertEqual(len(set(found)), len(found))
        for place, life in zip(found, second):
            self.assertIs(type(place), int)
            self.assertTrue(0 <= place < len(first) and first[place] >= life)

    def check_worse(self, first, second):
        self.assertIs(never_worse(first, second), False)
        with self.assertRaises(Worse) as caught:
            matching(first, second)
        future = caught.exception.future
        self.assertIs(type(future), list)
        self.assertTrue(all(type(number) is int and number >= 0 for number in future))
        self.assertLess(served_by(first, future)[-1], served_by(second, future)[-1])

    def check(self, first, second):
        most = max([0, *first, *second])
        expected = all(
            sum(life >= least for life in first) >= sum(life >= least for life in second)
            for least in range(1, most + 1)
        )
        (self.check_better if expected else self.check_worse)(first, second)

    def test_stocks(self):
        self.check_better([2, 3], [1, 3])
        self.check_better([1], [])
        self.check_better([5, 1, 3], [3, 1])
        self.check_better([2, 2, 2], [1, 1, 1])
        self.check_worse([1, 3], [2, 3])
        self.check_worse([], [1])
        self.check_worse([100], [1, 1])
        self.check_worse([99] * 5, [100])
        self.check_worse([3, 1], [2, 2])

    def test_empty_and_equal_stocks(self):
        self.assertEqual(matching([], []), [])
        self.assertEqual(matching([4, 2], []), [])
        self.check_better([], [])
        for stock in ([1], [100], [3, 1, 2], [7] * 60, list(range(1, 61))):
            self.check_better(stock, stock)
            self.check_better(stock, stock[::-1])
            self.check_worse(stock, stock + [1])
            self.check_worse(stock[1:], stock)
            self.check_better(stock + [1], stock)

    def test_the_only_matching(self):
        self.assertEqual(matching([2, 3], [1, 3]), [0, 1])
        self.assertEqual(matching([3, 2], [1, 3]), [1, 0])
        self.assertEqual(matching(second=[5, 1, 3], first=[2, 5, 4]), [1, 0, 2])

    def test_lists_and_tuples(self):
        for first, second in product(([2, 3], (2, 3)), ([1, 3], (1, 3))):
            self.assertIs(never_worse(first=first, second=second), True)
            self.assertIs(never_worse(second, first), False)
            self.assertEqual(matching(first=first, second=second), [0, 1])
            self.check_worse(second, first)
        self.assertIs(never_worse((), []), True)
        self.check_worse((), (4,))

    def test_small_stocks_by_all_futures(self):
        stocks = small_stocks(3, 3)
        futures = list(product(range(4), repeat=3))
        told = [[served_by(stock, future) for future in futures] for stock in stocks]
        for (first, one), (second, other) in product(zip(stocks, told), repeat=2):
            expected = all(a >= b for mine, yours in zip(one, other) for a, b in zip(mine, yours))
            self.assertIs(never_worse(first, second), expected)
            self.check(first[::-1], second)

    def test_futures_in_which_units_arrive(self):
        stocks = small_stocks(2, 3)
        futures = list(product(range(3), repeat=3))
        for first, second in product(stocks, repeat=2):
            if never_worse(first, second):
                for arrivals in (((3,), (), (1,)), ((1, 2), (3, 3), ()), ((), (2,), (2,))):
                    for future in futures:
                        mine, yours = served_by(first, future, arrivals), served_by(second, future, arrivals)
                        self.assertTrue(all(a >= b for a, b in zip(mine, yours)))

    def test_drawn_stocks_up_to_sixty_units_and_lives_of_a_hundred(self):
        better = 0
        for seed in range(200):
            told = numbers(seed)
            life = (2, 5, 30, 100)[seed % 4]
            first = drawn_stock(told, 40 + seed % 21, life)
            second = drawn_stock(told, seed % 61, max(1, life - seed % 7))
            self.check(first, second)
            self.check(second, first)
            better += never_worse(first, second)
            lowered = [max(1, one - next(told) % 3) for one in first]
            self.check_better(first, lowered[::-1])
            self.check_better(first, lowered[3:])
        self.assertGreater(better, 20)
        self.check_better([100] * 60, [100] * 60)
        self.check_worse([100] * 59 + [99], [100] * 60)
        self.check_worse([100] * 59, [1] * 60)

    def test_futures_served_by_a_shop(self):
        for first, second in (([1, 3], [2, 3]), ([], [1]), ([4, 4, 1], [4, 4, 4]), ([100] * 3, [1] * 4)):
            with self.assertRaises(Worse) as caught:
                matching(first, second)
            shops = [Shop(100, "oldest", stock=stock) for stock in (first, second)]
            for demanded in caught.exception.future:
                for shop in shops:
                    shop.pass_day(0, demanded)
            self.assertLess(shops[0].served, shops[1].served)

    def test_the_stocks_do_not_change(self):
        first, second = [3, 1, 2], [2, 3]
        matching(first, second)
        never_worse(first, second)
        self.check_worse(second, first)
        self.assertEqual((first, second), ([3, 1, 2], [2, 3]))

    def test_new_lists_each_time(self):
        found = matching([3, 2], [1, 3])
        found.clear()
        self.assertEqual(matching([3, 2], [1, 3]), [1, 0])
        futures = []
        for _ in range(2):
            with self.assertRaises(Worse) as caught:
                matching([1, 1], [3])
            futures.append(list(caught.exception.future))
            caught.exception.future.clear()
        self.assertEqual(futures[0], futures[1])


if __name__ == "__main__":
    unittest.main()
