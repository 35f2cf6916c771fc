"""Point 12: how many units can be old, and the prices that prove it."""

import unittest

from soldages.errors import NoChoice
from soldages.logs import is_choice, Log
from soldages.rules import choice_by
from soldages.thresholds import bounds, choice_with_number, is_prices, prices_for
from tests.values import ANY_VALUES, great_logs, logs_with_choices, some_choices

FOUR = Log([(2, 0), (1, 1), (0, 1), (1, 2)])
MOST_TWO = ({0: 1, 1: 1, 3: 0}, {1: -1, 2: 0, 3: 0})


def old_units(choice, level):
    return sum(1 for came, left in choice if left - came >= level)


def levels_of(log):
    """Return the levels up to behind the greatest possible age, and great ones."""
    return [*range(len(log.days) + 2), 60, 10 ** 30]


def proves(log, level, prices, number, least):
    """Tell whether two dicts of prices are evidence for the number, with their conditions as the document puts them."""
    prices_in, prices_out = prices
    if {*prices_in} != {*log.days_in} or {*prices_out} != {*log.days_out}:
        return False
    for came, price_in in prices_in.items():
        for left, price_out in prices_out.items():
            worth = 1 if left - came >= level else 0
            if came <= left and (price_in + price_out > worth if least else price_in + price_out < worth):
                return False
    return sum(prices_in[day] for day in log.days_in) + sum(prices_out[day] for day in log.days_out) == number


def changed(prices, side, day, by):
    """Return a copy of prices with one of them changed."""
    copies = tuple({key: worth for key, worth in part.items()} for part in prices)
    copies[side][day] += by
    return copies


class BoundsTest(unittest.TestCase):
    def test_bounds(self):
        self.assertEqual([bounds(FOUR, level) for level in range(5)], [(4, 4), (2, 3), (1, 2), (0, 1), (0, 0)])
        self.assertEqual(bounds(log=FOUR, level=10 ** 30), (0, 0))
        self.assertIs(type(bounds(FOUR, 2)), tuple)

    def test_no_units_and_one_day(self):
        for level in (0, 1, 5):
            self.assertEqual(bounds(Log([(0, 0)] * 3), level), (0, 0))
        self.assertEqual([bounds(Log([(3, 1)]), level) for level in range(3)], [(3, 3), (0, 0), (0, 0)])

    def test_the_rules_may_have_neither_bound(self):
        log = Log([(1, 0), (2, 0), (2, 1), (0, 0), (1, 1), (0, 1), (0, 0)])
        self.assertEqual([old_units(choice_by(log, rule), 4) for rule in ("oldest", "newest")], [3, 3])
        self.assertEqual(bounds(log, 4), (2, 4))

    def test_small_logs_by_all_choices(self):
        for log, every in logs_with_choices():
            for level in levels_of(log):
                told = sorted({old_units(choice, level) for choice in every})
                least, greatest = bounds(log, level)
                self.assertEqual((least, greatest), (told[0], told[-1]))
                self.assertEqual(told, list(range(least, greatest + 1)))

    def test_great_logs(self):
        for log in great_logs():
            for level in (*range(0, 62, 5), 1, 59, 10 ** 6):
                least, greatest = bounds(log, level)
                for choice in some_choices(log):
                    self.assertTrue(least <= old_units(choice, level) <= greatest)
                for least_one, number in ((False, greatest), (True, least)):
                    prices = prices_for(log, level, least=least_one)
                    self.assertTrue(proves(log, level, prices, number, least_one))
                    self.assertEqual(old_units(choice_with_number(log, level, number), level), number)


class ChoiceTest(unittest.TestCase):
    def check_choices(self, log, level):
        least, greatest = bounds(log, level)
        for number in range(least, greatest + 1):
            found = choice_with_number(log, level, number)
            self.assertTrue(is_choice(log, found))
            self.assertEqual(old_units(found, level), number)
        for number in (least - 1, greatest + 1, -1, -(10 ** 30), 10 ** 30, len(log.days_in) + 1):
            self.check_none(log, level, number)

    def check_none(self, log, level, number):
        with self.assertRaises(NoChoice) as caught:
            choice_with_number(log, level, number)
        self.assertEqual(caught.exception.number, number)

    def test_choices(self):
        self.assertEqual(choice_with_number(FOUR, 2, 1), [(0, 1), (0, 3), (1, 2), (3, 3)])
        self.assertEqual(old_units(choice_with_number(log=FOUR, level=2, number=2), 2), 2)
        self.check_none(FOUR, 2, 0)
        self.check_none(FOUR, 2, 3)
        self.assertEqual(choice_with_number(Log([(0, 0)]), 3, 0), [])
        self.check_none(Log([(0, 0)]), 0, 1)

    def test_small_logs(self):
        for log, _ in logs_with_choices():
            for level in levels_of(log):
                self.check_choices(log, level)

    def test_great_logs(self):
        for log in great_logs():
            for level in (0, 1, 2, 7, 20, 40, 59, 60):
                self.check_choices(log, level)

    def test_a_new_list_each_time(self):
        found = choice_with_number(FOUR, 2, 1)
        found.clear()
        self.assertEqual(len(choice_with_number(FOUR, 2, 1)), 4)


class PricesTest(unittest.TestCase):
    def check_prices(self, log, level):
        for least, number in zip((True, False), bounds(log, level)):
            found = prices_for(log, level, least=least)
            self.assertIs(type(found), tuple)
            self.assertEqual([type(part) for part in found], [dict, dict])
            told = [item for part in found for pair in part.items() for item in pair]
            self.assertTrue(all(type(item) is int for item in told))
            self.assertTrue(proves(log, level, found, number, least))
            self.assertIs(is_prices(log, level, found, least=least), True)

    def test_small_logs(self):
        for log, _ in logs_with_choices():
            for level in levels_of(log):
                self.check_prices(log, level)

    def test_great_logs(self):
        for log in great_logs():
            for level in levels_of(log):
                self.check_prices(log, level)

    def test_the_greatest_is_what_is_asked_for_without_a_word(self):
        self.assertTrue(proves(FOUR, 2, prices_for(log=FOUR, level=2), 2, False))
        self.assertTrue(proves(FOUR, 2, prices_for(FOUR, 2, least=False), 2, False))
        self.assertTrue(proves(FOUR, 2, prices_for(FOUR, 2, least=True), 1, True))

    def test_no_units(self):
        for least in (False, True):
            self.assertEqual(prices_for(Log([(0, 0)] * 2), 1, least=least), ({}, {}))
            self.assertIs(is_prices(Log([(0, 0)] * 2), 1, ({}, {}), least=least), True)

    def test_least_is_passed_by_its_name(self):
        with self.assertRaises(TypeError):
            prices_for(FOUR, 2, True)
        with self.assertRaises(TypeError):
            is_prices(FOUR, 2, MOST_TWO, True)

    def test_new_dicts_each_time(self):
        for least in (False, True):
            found = prices_for(FOUR, 2, least=least)
            found[0].clear()
            found[1].clear()
            self.assertIs(is_prices(FOUR, 2, prices_for(FOUR, 2, least=least), least=least), True)


class IsPricesTest(unittest.TestCase):
    def test_prices(self):
        self.assertTrue(proves(FOUR, 2, MOST_TWO, 2, False))
        self.assertIs(is_prices(FOUR, 2, MOST_TWO), True)
        self.assertIs(is_prices(log=FOUR, level=2, value=MOST_TWO, least=False), True)
        self.assertIs(is_prices(FOUR, 2, MOST_TWO, least=True), False)
        turned = ({3: 0, 1: 1, 0: 1}, {3: 0, 2: 0, 1: -1})
        self.assertIs(is_prices(FOUR, 2, turned), True)
        moved = ({0: 8, 1: 8, 3: 7}, {1: -8, 2: -7, 3: -7})
        self.assertIs(is_prices(FOUR, 2, moved), True)
        self.assertIs(is_prices(FOUR, 2, ({0: 0, 1: 0, 3: -1}, {1: 0, 2: 1, 3: 1})), True)

    def test_totals_that_are_no_bound(self):
        self.assertIs(is_prices(FOUR, 2, ({0: 1, 1: 1, 3: 1}, {1: 0, 2: 0, 3: 0})), False)
        self.assertIs(is_prices(FOUR, 2, ({0: 1, 1: 1, 3: 0}, {1: 0, 2: 0, 3: 0})), False)
        self.assertIs(is_prices(FOUR, 2, ({0: 0, 1: 0, 3: 0}, {1: 0, 2: 0, 3: 0}), least=True), False)

    def test_one_price_changed(self):
        for log, level in ((FOUR, 0), (FOUR, 1), (FOUR, 2), (FOUR, 3), (great_logs()[0], 5)):
            for least in (False, True):
                prices = prices_for(log, level, least=least)
                for side in (0, 1):
                    for day in prices[side]:
                        for by in (-1, 1, 10 ** 30):
                            value = changed(prices, side, day, by)
                            self.assertIs(is_prices(log, level, value, least=least), False)

    def test_two_prices_changed_against_each_other(self):
        told = {True: 0, False: 0}
        for log in (FOUR, Log([(1, 0)] * 4 + [(0, 1)] * 4), Log([(2, 0), (2, 1), (0, 2), (1, 1)]), great_logs()[0]):
            for level in (1, 2, 3):
                for least, number in zip((True, False), bounds(log, level)):
                    prices = prices_for(log, level, least=least)
                    places = [(side, day) for side in (0, 1) for day in prices[side]]
                    for place in places[:12]:
                        for other in places[-12:]:
                            value = changed(changed(prices, *place, 1), *other, -1)
                            expected = proves(log, level, value, number, least)
                            self.assertIs(is_prices(log, level, value, least=least), expected)
                            told[expected] += 1
        self.assertTrue(told[True] > 50 and told[False] > 50)

    def test_small_prices_by_their_conditions(self):
        log = Log([(1, 0), (1, 1), (0, 1)])
        told = 0
        for k in range(4 ** 4):
            worth = [k // 4 ** place % 4 - 1 for place in range(4)]
            value = ({0: worth[0], 1: worth[1]}, {1: worth[2], 2: worth[3]})
            for level in range(4):
                for least, number in zip((True, False), bounds(log, level)):
                    expected = proves(log, level, value, number, least)
                    self.assertIs(is_prices(log, level, value, least=least), expected)
                    told += expected
        self.assertGreater(told, 20)

    def test_days_left_out_and_added(self):
        for value in (
            ({0: 1, 1: 1}, {1: -1, 2: 0, 3: 0}),
            ({0: 1, 1: 1, 3: 0}, {1: -1, 2: 0}),
            ({0: 1, 1: 1, 2: 0, 3: 0}, {1: -1, 2: 0, 3: 0}),
            ({0: 1, 1: 1, 3: 0}, {0: 0, 1: -1, 2: 0, 3: 0}),
            ({0: 1, 1: 1, 3: 0}, {1: -1, 2: 0, 3: 0, 4: 0}),
            ({0: 1, 1: 1, 2: 0}, {1: -1, 2: 0, 3: 0}),
            ({0: 1, 1: 1, 3: 0, None: 0}, {1: -1, 2: 0, 3: 0}),
            ({0: 1, 1: 1, 3: 0, "3": 0}, {1: -1, 2: 0, 3: 0}),
            ({0: 1, 1: 1, "3": 0}, {1: -1, 2: 0, 3: 0}),
            ({0: 1, 1: 1, 3: 0}, {1: -1, 2: 0, (3,): 0}),
            ({}, {}),
            ({}, {1: -1, 2: 0, 3: 0}),
            (MOST_TWO[1], MOST_TWO[0]),
        ):
            self.assertIs(is_prices(FOUR, 2, value), False)
            self.assertIs(is_prices(FOUR, 2, value, least=True), False)
        self.assertIs(is_prices(Log([(0, 0)]), 2, ({0: 0}, {})), False)
        self.assertIs(is_prices(Log([(0, 0)]), 2, ({}, {0: 0})), False)

    def test_bools_are_no_integers(self):
        for value in (
            ({0: True, 1: 1, 3: 0}, {1: -1, 2: 0, 3: 0}),
            ({0: 1, 1: 1, 3: False}, {1: -1, 2: 0, 3: 0}),
            ({0: 1, 1: 1, 3: 0}, {1: -1, 2: False, 3: 0}),
            ({False: 1, 1: 1, 3: 0}, {1: -1, 2: 0, 3: 0}),
            ({0: 1, True: 1, 3: 0}, {1: -1, 2: 0, 3: 0}),
            ({0: 1, 1: 1, 3: 0}, {True: -1, 2: 0, 3: 0}),
        ):
            self.assertEqual(value, MOST_TWO)
            self.assertIs(is_prices(FOUR, 2, value), False)

    def test_kinds_of_values(self):
        first, second = MOST_TWO
        for value in (
            [first, second],
            (first, second, {}),
            (first,),
            (first, None),
            (None, second),
            (list(first.items()), list(second.items())),
            (tuple(first.items()), second),
            (first, [-1, 0, 0]),
            {0: first, 1: second},
            ({0: 1, 1: 1, 3: None}, second),
            ({0: "1", 1: 1, 3: 0}, second),
            ({0: [1], 1: 1, 3: 0}, second),
            ({0: (1,), 1: 1, 3: 0}, second),
            (MOST_TWO,),
            ("ab", "cd"),
            "ab",
            first,
            *ANY_VALUES,
            *[(value, second) for value in ANY_VALUES],
            *[(first, value) for value in ANY_VALUES],
        ):
            self.assertIs(is_prices(FOUR, 2, value), False)
            self.assertIs(is_prices(FOUR, 2, value, least=True), False)
        for value in ANY_VALUES:
            self.assertIs(is_prices(Log([(0, 0)]), 2, value), False)

    def test_the_prices_for_the_other_bound(self):
        for log, level in ((FOUR, 1), (FOUR, 2), (FOUR, 3), (great_logs()[0], 5), (great_logs()[8], 20)):
            for least in (False, True):
                value = prices_for(log, level, least=not least)
                self.assertIs(is_prices(log, level, value, least=least), False)

    def test_the_prices_for_another_level(self):
        for level in range(5):
            for other in range(5):
                for least, number in zip((True, False), bounds(FOUR, other)):
                    value = prices_for(FOUR, level, least=least)
                    expected = proves(FOUR, other, value, number, least)
                    self.assertIs(is_prices(FOUR, other, value, least=least), expected)

    def test_value_is_not_changed(self):
        value = changed(MOST_TWO, 0, 0, 0)
        is_prices(FOUR, 2, value)
        is_prices(FOUR, 2, value, least=True)
        self.assertEqual(value, MOST_TWO)


if __name__ == "__main__":
    unittest.main()
