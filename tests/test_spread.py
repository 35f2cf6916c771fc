"""Points 8 and 9: tables, transfers, and how two lists are compared."""

import unittest
from itertools import combinations_with_replacement

from soldages.errors import MoreSpread, NotComparable
from soldages.spread import compared, is_transfers, Table, transfers
from tests.values import ANY_VALUES

GREAT = 10 ** 6


def cost_above(ages, level):
    return sum(age - level for age in ages if age > level)


def no_more_spread(first, second):
    """Tell by all levels up to the greatest age whether the first list is no more spread."""
    levels = range(max([0, *first, *second]) + 1)
    return all(cost_above(first, level) <= cost_above(second, level) for level in levels)


def comparable_pairs():
    """Yield the pairs of small lists with equal lengths and sums."""
    for size in range(6):
        lists = [list(ages) for ages in combinations_with_replacement(range(5), size)]
        for first in lists:
            for second in lists:
                if sum(first) == sum(second):
                    yield first, second


class TableTest(unittest.TestCase):
    def test_costs(self):
        self.assertEqual(Table([]).cost([1, 2, 3]), 0)
        self.assertEqual(Table([(0, 1)]).cost([]), 0)
        self.assertEqual(Table([(0, 1)]).cost([0, 2, 5]), 7)
        self.assertEqual(Table([(2, 3)]).cost([0, 1, 2, 3, 5]), 12)
        self.assertEqual(Table([(5, 7)]).cost([5]), 0)
        self.assertEqual(Table([(5, 7)]).cost([6]), 7)
        self.assertEqual(Table([(5, 0)]).cost([60]), 0)
        self.assertEqual(Table([(0, 1), (2, 10), (0, 100)]).cost([1, 4]), 525)
        self.assertEqual(Table(entries=[(1, 5)]).cost(ages=(0, 0, 2, 3)), 15)

    def test_great_numbers(self):
        self.assertEqual(Table([(0, GREAT)]).cost([GREAT] * 60), 60 * 10 ** 12)
        self.assertEqual(Table([(GREAT, GREAT)]).cost([GREAT] * 60), 0)
        self.assertEqual(Table([(GREAT - 1, GREAT)] * 2).cost([GREAT]), 2 * GREAT)

    def test_entries_are_kept_as_a_copy(self):
        entries = [(1, 5), (0, 2)]
        table = Table(entries)
        entries[0] = (7, 7)
        entries.append((3, 3))
        self.assertEqual(table.entries, ((1, 5), (0, 2)))
        self.assertIs(type(table.entries), tuple)
        self.assertEqual(table.cost([2]), 9)
        self.assertEqual(Table(((1, 5),)).entries, ((1, 5),))

    def test_equality(self):
        table = Table([(1, 5), (0, 2)])
        self.assertTrue(table == Table(((1, 5), (0, 2))))
        self.assertFalse(table != Table(((1, 5), (0, 2))))
        self.assertTrue(Table([]) == Table(()))
        for other in (Table([(0, 2), (1, 5)]), Table([(1, 5)]), Table([(1, 5), (0, 3)]), Table([])):
            self.assertFalse(table == other)
            self.assertTrue(table != other)

    def test_a_table_equals_no_other_kind_of_value(self):
        for table in (Table([(1, 5)]), Table([]), Table([(0, 0)])):
            for other in [table.entries, list(table.entries), [table], (table,), *ANY_VALUES]:
                self.assertIs(table == other, False)
                self.assertIs(table != other, True)

    def test_arguments_are_not_changed(self):
        ages = [3, 1, 2]
        Table([(1, 5)]).cost(ages)
        self.assertEqual(ages, [3, 1, 2])


class TransfersTest(unittest.TestCase):
    def check_found(self, first, second):
        found = transfers(first, second)
        self.assertIs(type(found), list)
        self.assertLessEqual(len(found), len(first))
        self.assertIs(is_transfers(first, second, found), True)
        self.execute(first, second, found)

    def execute(self, first, second, found):
        there = list(second)
        for step in found:
            self.assertIs(type(step), tuple)
            self.assertTrue(all(type(number) is int for number in step))
            high, low, moved = step
            self.assertGreaterEqual(moved, 1)
            self.assertGreaterEqual(high - moved, low + moved)
            there.remove(high)
            there.remove(low)
            there += [high - moved, low + moved]
        self.assertEqual(sorted(there), sorted(first))

    def check_more_spread(self, first, second):
        with self.assertRaises(MoreSpread) as caught:
            transfers(first, second)
        level = caught.exception.level
        self.assertIs(type(level), int)
        self.assertTrue(0 <= level <= GREAT)
        table = Table([(level, 1)])
        self.assertGreater(table.cost(first), table.cost(second))
        self.assertGreater(cost_above(first, level), cost_above(second, level))

    def test_transfers(self):
        self.check_found([0, 1, 2, 2], [0, 0, 2, 3])
        self.check_found([2, 2, 2, 2], [0, 1, 3, 4])
        self.check_found([3, 3, 3, 3, 3], [0, 0, 0, 0, 15])
        self.check_found([3, 3, 3, 3, 3], [5, 5, 5, 0, 0])

    def test_alike_lists_need_no_transfer(self):
        self.assertEqual(transfers([], []), [])
        self.assertEqual(transfers([4], [4]), [])
        self.assertEqual(transfers([2, 0, 1], [0, 1, 2]), [])

    def test_lists_and_tuples(self):
        self.assertTrue(is_transfers((1, 1), (0, 2), transfers((1, 1), (0, 2))))
        self.assertTrue(is_transfers(first=(1, 1), second=[2, 0], value=transfers(first=[1, 1], second=(2, 0))))
        self.check_more_spread((0, 2), (1, 1))

    def test_not_comparable(self):
        for first, second in (
            ([1, 2], [1, 1]),
            ([0, 1], [1]),
            ([1], [1, 0]),
            ([], [0]),
            ([0], []),
            ([2, 2], [0, 3]),
            ([0, 5], [2, 2]),
            ([GREAT] * 60, [GREAT] * 59 + [GREAT - 1]),
            ([3], [1, 2]),
        ):
            with self.assertRaises(NotComparable):
                transfers(first, second)

    def test_not_comparable_comes_ahead_of_more_spread(self):
        for first, second in (([0, 9], [1, 1]), ([9], [1, 1]), ([0, 4, 0], [2, 2])):
            with self.assertRaises(NotComparable):
                transfers(first, second)

    def test_more_spread(self):
        self.check_more_spread([0, 2], [1, 1])
        self.check_more_spread([0, 0, 2, 3], [0, 1, 2, 2])
        self.check_more_spread([0, 3, 3], [1, 1, 4])
        self.check_more_spread([1, 1, 4], [0, 3, 3])
        self.check_more_spread([2, 0, 0], [1, 1, 0])
        self.check_more_spread([0, 2, GREAT], [1, 1, GREAT])
        self.check_more_spread([GREAT, GREAT - 2], [GREAT - 1, GREAT - 1])

    def test_all_small_lists(self):
        checked = 0
        for first, second in comparable_pairs():
            if no_more_spread(first, second):
                self.check_found(first, second)
            else:
                self.check_more_spread(first, second)
            checked += 1
        self.assertGreater(checked, 1000)

    def test_great_lists(self):
        self.check_found([GREAT // 2] * 60, [0, GREAT] * 30)
        self.check_more_spread([0, GREAT] * 30, [GREAT // 2] * 60)
        first = [k * k for k in range(60)]
        second = sorted(first)
        second[0], second[59] = 0, first[59] + first[30] - 1
        second[30] = 1
        self.check_found(first, second)
        self.check_more_spread(second, first)
        self.check_found(list(range(60)), [0] * 30 + [59] * 30)

    def test_arguments_are_not_changed(self):
        first, second = [2, 1, 1], [0, 3, 1]
        transfers(first, second)
        is_transfers(first, second, [(3, 0, 1)])
        compared(first, second)
        self.assertEqual((first, second), ([2, 1, 1], [0, 3, 1]))

    def test_a_new_list_each_time(self):
        one = transfers([1, 1], [0, 2])
        one.append(1)
        self.assertEqual(transfers([1, 1], [0, 2]), [(2, 0, 1)])


class IsTransfersTest(unittest.TestCase):
    def test_transfers_of_any_length(self):
        self.assertIs(is_transfers([1, 1], [1, 1], []), True)
        self.assertIs(is_transfers([5, 5], [0, 10], [(10, 0, 5)]), True)
        self.assertIs(is_transfers([5, 5], [0, 10], [(10 - k, k, 1) for k in range(5)]), True)
        self.assertIs(is_transfers([5, 5], [0, 10], [(10, 0, 2), (8, 2, 3)]), True)
        self.assertIs(is_transfers([2, 2, 2], [0, 2, 4], [(4, 0, 2)]), True)
        self.assertIs(is_transfers([2, 2, 2], [0, 2, 4], [(4, 2, 1), (3, 0, 1), (3, 1, 1)]), True)

    def test_other_ends(self):
        self.assertIs(is_transfers([1, 1], [0, 2], []), False)
        self.assertIs(is_transfers([5, 5], [0, 10], [(10, 0, 4)]), False)
        self.assertIs(is_transfers([4, 6], [0, 10], [(10, 0, 5)]), False)
        self.assertIs(is_transfers([1, 3, 2], [0, 2, 4], [(4, 0, 2)]), False)

    def test_order_of_transfers(self):
        self.assertIs(is_transfers([5, 5], [0, 10], [(8, 2, 3), (10, 0, 2)]), False)

    def test_kinds_of_values(self):
        self.assertIs(is_transfers([1, 1], [0, 2], [(2, 0, 1)]), True)
        for value in (
            ((2, 0, 1),),
            (),
            [[2, 0, 1]],
            [(2, 0, True)],
            [(2, False, 1)],
            [(2, 0)],
            [(2, 0, 1, 1)],
            [(2, 0, None)],
            [("2", 0, 1)],
            [(2, 0, 1), None],
            [(2, 0, 1), ()],
            [(2, 0, [1])],
            [2, 0, 1],
            ["201"],
            {(2, 0, 1): True},
            [[(2, 0, 1)]],
            "(2, 0, 1)",
            *ANY_VALUES,
        ):
            self.assertIs(is_transfers([1, 1], [0, 2], value), False)
            self.assertIs(is_transfers([0, 2], [0, 2], value), False)
        self.assertIs(is_transfers([2, 2], [1, 3], [(3, True, 1)]), False)
        self.assertIs(is_transfers([], [], None), False)

    def test_numbers_that_are_not_there(self):
        self.assertIs(is_transfers([1, 1], [0, 2], [(3, 0, 1)]), False)
        self.assertIs(is_transfers([1, 1], [0, 2], [(2, -1, 1)]), False)
        self.assertIs(is_transfers([1, 1, 3], [0, 2, 3], [(2, 1, 1)]), False)
        self.assertIs(is_transfers([2, 2], [0, 4], [(4, 0, 1), (4, 0, 1)]), False)
        self.assertIs(is_transfers([1, 1], [0, 2], [(10 ** 5000, 0, 1)]), False)

    def test_m_below_one(self):
        self.assertIs(is_transfers([0, 2], [0, 2], [(2, 0, 0)]), False)
        self.assertIs(is_transfers([1, 1], [1, 1], [(1, 1, 0)]), False)
        self.assertIs(is_transfers([0, 2], [1, 1], [(1, 1, -1)]), False)
        self.assertIs(is_transfers([1, 4], [2, 3], [(3, 2, -1)]), False)

    def test_m_too_great(self):
        self.assertIs(is_transfers([0, 2], [0, 2], [(2, 0, 2)]), False)
        self.assertIs(is_transfers([1, 2], [0, 3], [(3, 0, 2)]), False)
        self.assertIs(is_transfers([1, 2], [1, 2], [(2, 1, 1)]), False)
        self.assertIs(is_transfers([1, 2], [0, 3], [(3, 0, 1)]), True)
        self.assertIs(is_transfers([0, 4], [1, 3], [(1, 3, 1)]), False)
        self.assertIs(is_transfers([2, 2], [1, 3], [(1, 3, 1)]), False)

    def test_one_place_alone(self):
        self.assertIs(is_transfers([2], [2], [(2, 2, 1)]), False)
        self.assertIs(is_transfers([2], [2], [(2, 2, 0)]), False)
        self.assertIs(is_transfers([2, 1], [2, 1], [(2, 2, 0)]), False)
        self.assertIs(is_transfers([1, 3, 0], [2, 2, 0], [(2, 2, 1)]), False)
        self.assertIs(is_transfers([1, 3, 0], [2, 2, 0], [(2, 2, -1)]), False)

    def test_the_value_is_not_changed(self):
        value = [(2, 0, 1)]
        is_transfers([1, 1], [0, 2], value)
        self.assertEqual(value, [(2, 0, 1)])


class ComparedTest(unittest.TestCase):
    def test_four_words(self):
        self.assertEqual(compared([0, 1, 2, 2], [0, 0, 2, 3]), "less")
        self.assertEqual(compared(first=[0, 0, 2, 3], second=[0, 1, 2, 2]), "more")
        self.assertEqual(compared([0, 3, 3], [1, 1, 4]), "neither")
        self.assertEqual(compared([1, 1, 4], [0, 3, 3]), "neither")
        self.assertEqual(compared([3, 0, 1], [0, 1, 3]), "alike")
        self.assertEqual(compared([], []), "alike")

    def test_lists_and_tuples(self):
        self.assertEqual(compared((1, 1), [0, 2]), "less")
        self.assertEqual(compared([0, 2], (1, 1)), "more")
        self.assertEqual(compared((2, 0), [0, 2]), "alike")
        self.assertEqual(compared((0, 3, 3), (1, 1, 4)), "neither")

    def test_great_lists(self):
        self.assertEqual(compared([GREAT - 1] * 2 + [0] * 58, [GREAT, GREAT - 2] + [0] * 58), "less")
        self.assertEqual(compared([GREAT, 0] * 30, [GREAT // 2] * 60), "more")
        self.assertEqual(compared([GREAT, 0] * 30, [0, GREAT] * 30), "alike")
        self.assertEqual(compared([GREAT, 1, 1, GREAT] * 15, [GREAT, 0, 2, GREAT] * 15), "less")
        self.assertEqual(compared([GREAT - 1, GREAT - 1, 1, 1], [GREAT, GREAT - 4, 2, 2]), "neither")

    def test_all_small_lists(self):
        words = {(True, True): "alike", (True, False): "less", (False, True): "more", (False, False): "neither"}
        seen = {}
        for first, second in comparable_pairs():
            word = words[no_more_spread(first, second), no_more_spread(second, first)]
            self.assertEqual(compared(first[::-1], second), word)
            self.assertEqual(word == "alike", first == second)
            seen[word] = True
        self.assertEqual(len(seen), 4)


if __name__ == "__main__":
    unittest.main()
