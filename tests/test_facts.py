"""Point 2 and the words of points 10 to 16: the facts about all choices, for small logs and for drawn ones."""

import unittest
from collections import Counter
from itertools import product
from math import prod

from soldages.console import Console
from soldages.costs import Goods
from soldages.exchanges import chain, is_chain, kind_of, path
from soldages.layers import left_by_period, left_prices, value_of
from soldages.logs import ages_of, is_choice, Log
from soldages.pairs import choice_with, is_possible, possible_ages, runs
from soldages.rules import choice_by, choices
from soldages.spread import compared, is_transfers, Table, transfers
from soldages.store import Store
from soldages.thresholds import bounds, choice_with_number, is_prices, prices_for
from tests.values import all_small_logs, drawn_logs, joined, mixed_days, numbers, priced, some_choices

RULES = ("oldest", "newest")
FEW = 8
TABLES = [Table([(level, 1)]) for level in range(5)] + [Table([(0, 3), (1, 2), (3, 10)])]


def choices_to_try(log):
    """Return all choices of a small log, and a few ones of any other."""
    return list(choices(log)) if len(log.days_in) <= FEW else some_choices(log)


def old_units(choice, level):
    return sum(1 for came, left in choice if left - came >= level)


def moved(pairs, by):
    """Return the pairs with all days so many days later."""
    return [(came + by, left + by) for came, left in pairs]


def sold_out(days):
    """Return the days with all units sold on the last one."""
    left = sum(came - gone for came, gone in days)
    return days[:-1] + [(days[-1][0], days[-1][1] + left)]


class SpreadTest(unittest.TestCase):
    def check_log(self, log, every):
        oldest, newest = [ages_of(choice_by(log, rule)) for rule in RULES]
        for choice in every:
            ages = ages_of(choice)
            self.assertEqual(sum(oldest), sum(ages))
            for low, high in ((oldest, ages), (ages, newest)):
                self.assertIn(compared(low, high), ("alike", "less"))
                self.assertTrue(is_transfers(low, high, transfers(low, high)))
                for table in TABLES:
                    self.assertLessEqual(table.cost(low), table.cost(high))

    def test_small_logs(self):
        for log in all_small_logs():
            if len(log.days_in) <= FEW:
                self.check_log(log, choices(log))

    def test_drawn_logs(self):
        for log in drawn_logs():
            self.check_log(log, choices_to_try(log))


class DrawnTest(unittest.TestCase):
    def test_drawn_logs_are_of_many_kinds(self):
        logs = drawn_logs()
        self.assertGreater(max(len(runs(log)) for log in logs), 8)
        self.assertTrue(any(log.days[0] == (0, 0) and log.days[-1] == (0, 0) for log in logs))
        empty = [(log, day) for log in logs for day, row in enumerate(log.days) if row == (0, 0)]
        self.assertEqual({min(1, log.stock(day)) for log, day in empty}, {0, 1})
        self.assertGreater(max(len(log.days_in) for log in logs), 25)
        self.assertGreater(sum(len(choices_to_try(log)) > 5 for log in logs), 10)

    def test_exchanges(self):
        for log in drawn_logs():
            for choice in choices_to_try(log)[:12]:
                for rule, word in (("oldest", "less"), ("newest", "more")):
                    told = chain(log, choice, rule)
                    self.assertTrue(is_chain(log, told))
                    self.assertEqual([told[0], told[-1]], [choice, choice_by(log, rule)])
                    for before, after in zip(told, told[1:]):
                        self.assertEqual(compared(ages_of(after), ages_of(before)), word)
                        gone = sorted((Counter(before) - Counter(after)).elements())
                        self.assertEqual(kind_of(*gone), "calming" if rule == "oldest" else "stirring")

    def test_paths(self):
        for log in drawn_logs():
            some = some_choices(log)
            for first, second in product(some, repeat=2):
                told = path(log, first, second)
                self.assertTrue(is_chain(log, told))
                self.assertEqual([told[0], told[-1]], [first, second])

    def test_pairs(self):
        for log in drawn_logs():
            days = range(-1, len(log.days) + 1)
            told = {pair for choice in choices_to_try(log) for pair in choice}
            for day_in, day_out in product(days, days):
                found = choice_with(log, day_in, day_out)
                self.assertIs(is_possible(log, day_in, day_out), found is not None)
                self.assertIs(day_out - day_in in possible_ages(log, day_out), found is not None)
                if found is None:
                    self.assertNotIn((day_in, day_out), told)
                else:
                    self.assertTrue(is_choice(log, found) and (day_in, day_out) in found)
                    # With few units, told are the pairs of all choices.
                    self.assertTrue(len(log.days_in) > FEW or (day_in, day_out) in told)

    def test_runs(self):
        for log in drawn_logs():
            found = runs(log)
            parts = [Log(list(log.days[first:last + 1])) for first, last in found]
            self.assertTrue(all(part.stock(len(part.days) - 1) == 0 for part in parts[:-1]))
            for rule in RULES:
                pairs = [moved(choice_by(part, rule), first) for part, (first, _) in zip(parts, found)]
                self.assertEqual(choice_by(log, rule), sum(pairs, []))
            if len(log.days_in) <= FEW:
                self.assertEqual(len(list(choices(log))), prod(len(list(choices(part))) for part in parts))

    def test_thresholds(self):
        for log in drawn_logs():
            every = choices_to_try(log)
            for level in (0, 1, 2, 3, 5, 8, 13, len(log.days)):
                least, greatest = bounds(log, level)
                told = {old_units(choice, level) for choice in every}
                self.assertTrue(least <= min(told) and max(told) <= greatest)
                if len(log.days_in) <= FEW:
                    self.assertEqual(sorted(told), list(range(least, greatest + 1)))
                for number in range(least, greatest + 1):
                    found = choice_with_number(log, level, number)
                    self.assertTrue(is_choice(log, found) and old_units(found, level) == number)
                for word in (False, True):
                    self.assertTrue(is_prices(log, level, prices_for(log, level, least=word), least=word))

    def test_thresholds_of_parts_that_are_sold_out(self):
        for seed in range(20):
            parts = [sold_out(mixed_days(5 * seed + part, 4 + seed % 4, 10, 2, 2)) for part in range(3)]
            days = joined(parts, seed % 3, seed % 4, 0)
            for level in range(1, 7):
                told = [bounds(Log(part), level) for part in parts]
                expected = (sum(least for least, _ in told), sum(greatest for _, greatest in told))
                self.assertEqual(bounds(Log(days), level), expected)
                self.assertEqual(bounds(Log(days + [(0, 0)] * 3), level), expected)

    def test_empty_days_ahead(self):
        for log in drawn_logs():
            later = Log([(0, 0)] * 4 + list(log.days))
            for rule in RULES:
                self.assertEqual(choice_by(later, rule), moved(choice_by(log, rule), 4))
            self.assertEqual(runs(later), [(day, day) for day in range(4)] + moved(runs(log), 4))
            for level in range(5):
                self.assertEqual(bounds(later, level), bounds(log, level))
            for day in range(len(log.days)):
                self.assertEqual(possible_ages(later, day + 4), possible_ages(log, day))


class PricedTest(unittest.TestCase):
    def test_costs(self):
        for seed, log in enumerate(drawn_logs()):
            goods = Goods(priced(log, seed, (3, 1000)[seed % 2]))
            for word, costs in ((True, goods.greatest()), (False, goods.least())):
                self.assertEqual(costs, [sum(goods.taken(count, dearest=word)) for count in range(len(costs))])
            for other in range(3):
                told = numbers(other)
                self.check_sales(goods, [next(told) for _ in range(40)])

    def check_sales(self, goods, draws):
        """Any sales cost from the least to the greatest cost so far, and the dearest taken are place by place above."""
        there, taken = [], []
        for prices, left in goods.days:
            there += prices
            for _ in range(left):
                taken.append(there.pop(draws[len(taken)] % len(there)))
                count = len(taken)
                self.assertTrue(goods.least()[count] <= sum(taken) <= goods.greatest()[count])
                for high, one in zip(goods.taken(count), sorted(taken, reverse=True)):
                    self.assertGreaterEqual(high, one)
        if sum(len(prices) for prices, _ in goods.days) <= 12:
            self.assertIn(sum(taken), goods.totals(len(taken)))

    def test_layers(self):
        differ = 0
        for seed, log in enumerate(drawn_logs()):
            goods = Goods(priced(log, seed, 1000))
            last = len(log.days) - 1
            worth = value_of([price for prices, _ in goods.days for price in prices])
            sales = sum(left for _, left in log.days)
            for ends in ([last], [*range(0, last, 3), last], [*range(last + 1)], [last // 2, last] if last else [0]):
                self.assertEqual(left_by_period(goods, "oldest", ends), left_prices(goods, "oldest"))
                differ += left_by_period(goods, "newest", ends) != left_prices(goods, "newest")
            for rule in RULES:
                cost = worth - value_of(left_prices(goods, rule))
                self.assertTrue(goods.least()[sales] <= cost <= goods.greatest()[sales])
                self.assertEqual(left_prices(goods, rule), left_by_period(goods, rule, list(range(last + 1))))
        self.assertGreater(differ, 10)


class TogetherTest(unittest.TestCase):
    def test_a_store_and_a_console_tell_the_same(self):
        console = Console()
        for log in drawn_logs():
            store = Store()
            for day, (arrived, left) in enumerate(log.days):
                self.assertEqual(store.today, day)
                store.arrive(arrived)
                for k in range(left):
                    store.sell_by(RULES[(day + k) % 2])
                if day < len(log.days) - 1:
                    store.next_day()
            self.assertEqual(store.log(), log)
            self.assertEqual(console.answer(f"log kept\n{store.log()}"), "ok")
            while store.held:
                store.sell_by("newest")
            # Now the sales of the last day are the closing, too.
            for rule, ages in zip(RULES, (store.best(), store.worst())):
                self.assertEqual(ages, ages_of(choice_by(log, rule)))
                self.assertEqual(console.answer(f"ages kept {rule}"), " ".join(str(age) for age in ages) or "none")
            self.assertIn(compared(store.best(), store.ages()), ("alike", "less"))
            self.assertIn(compared(store.ages(), store.worst()), ("alike", "less"))


if __name__ == "__main__":
    unittest.main()
