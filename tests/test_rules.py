"""Points 6 and 7: the choices by the two rules, and all choices."""

import inspect
import unittest
from itertools import islice, permutations

from soldages.errors import TooLarge
from soldages.logs import is_choice, Log
from soldages.rules import choice_by, choices
from tests.values import all_small_logs

FOUR = Log([(2, 0), (1, 1), (0, 1), (1, 2)])


def choices_by_trial(log):
    """Return all choices of a log in ascending order by going through all orders of the days out."""
    found = set()
    for days_out in permutations(log.days_out):
        pairs = list(zip(log.days_in, days_out))
        if all(came <= left for came, left in pairs):
            found.add(tuple(sorted(pairs)))
    return [list(pairs) for pairs in sorted(found)]


def choice_by_selling(log, rule):
    """Return the choice by a rule, selling the units day by day."""
    there, pairs = [], []
    for day, (arrived, left) in enumerate(log.days):
        there += [day] * arrived
        if day == len(log.days) - 1:
            left = len(there)
        for _ in range(left):
            came = min(there) if rule == "oldest" else max(there)
            there.remove(came)
            pairs.append((came, day))
    return sorted(pairs)


class RulesTest(unittest.TestCase):
    def test_both_rules(self):
        self.assertEqual(choice_by(FOUR, "oldest"), [(0, 1), (0, 2), (1, 3), (3, 3)])
        self.assertEqual(choice_by(log=FOUR, rule="newest"), [(0, 2), (0, 3), (1, 1), (3, 3)])

    def test_units_of_one_day(self):
        log = Log([(3, 1), (2, 2)])
        self.assertEqual(choice_by(log, "oldest"), [(0, 0), (0, 1), (0, 1), (1, 1), (1, 1)])
        self.assertEqual(choice_by(log, "newest"), [(0, 0), (0, 1), (0, 1), (1, 1), (1, 1)])
        log = Log([(2, 0), (2, 2), (0, 2)])
        self.assertEqual(choice_by(log, "oldest"), [(0, 1), (0, 1), (1, 2), (1, 2)])
        self.assertEqual(choice_by(log, "newest"), [(0, 2), (0, 2), (1, 1), (1, 1)])

    def test_units_left_at_the_end(self):
        log = Log([(2, 0), (1, 1), (0, 0)])
        self.assertEqual(choice_by(log, "oldest"), [(0, 1), (0, 2), (1, 2)])
        self.assertEqual(choice_by(log, "newest"), [(0, 2), (0, 2), (1, 1)])

    def test_no_units_and_one_day(self):
        for rule in ("oldest", "newest"):
            self.assertEqual(choice_by(Log([(0, 0)] * 3), rule), [])
            self.assertEqual(choice_by(Log([(2, 1)]), rule), [(0, 0), (0, 0)])

    def test_great_logs(self):
        log = Log([(20, 0)] + [(1, 1)] * 20 + [(0, 0)] * 39)
        oldest = [(0, day) for day in range(1, 21)] + [(day, 59) for day in range(1, 21)]
        newest = [(0, 59)] * 20 + [(day, day) for day in range(1, 21)]
        self.assertEqual(choice_by(log, "oldest"), oldest)
        self.assertEqual(choice_by(log, "newest"), newest)

    def test_small_logs_by_selling(self):
        for log in all_small_logs():
            for rule in ("oldest", "newest"):
                found = choice_by(log, rule)
                self.assertEqual(found, choice_by_selling(log, rule))
                self.assertTrue(is_choice(log, found))

    def test_a_new_list_each_time(self):
        for rule in ("oldest", "newest"):
            first = choice_by(FOUR, rule)
            second = choice_by(FOUR, rule)
            self.assertIs(type(first), list)
            self.assertIsNot(first, second)
            kept = list(second)
            first.append((9, 9))
            self.assertEqual(second, kept)
            self.assertEqual(choice_by(FOUR, rule), kept)


class ChoicesTest(unittest.TestCase):
    def test_all_choices_of_a_log(self):
        self.assertEqual(list(choices(log=FOUR)), [
            [(0, 1), (0, 2), (1, 3), (3, 3)],
            [(0, 1), (0, 3), (1, 2), (3, 3)],
            [(0, 2), (0, 3), (1, 1), (3, 3)],
        ])

    def test_no_units_have_one_choice(self):
        self.assertEqual(list(choices(Log([(0, 0)]))), [[]])

    def test_it_is_a_generator_function(self):
        self.assertTrue(inspect.isgeneratorfunction(choices))

    def test_small_logs_by_trial(self):
        checked = 0
        for log in all_small_logs():
            if len(log.days_in) <= 6:
                found = list(choices(log))
                self.assertEqual(found, choices_by_trial(log))
                self.assertTrue(all(is_choice(log, choice) for choice in found))
                checked += 1
        self.assertGreater(checked, 400)

    def test_seven_units_by_trial(self):
        log = Log([(2, 0), (1, 1), (0, 1), (2, 0), (1, 2), (1, 1), (0, 1)])
        self.assertEqual(list(choices(log)), choices_by_trial(log))

    def test_eight_units(self):
        log = Log([(1, 0)] * 8 + [(0, 1)] * 8)
        found = list(choices(log))
        self.assertEqual(len(found), 40320)
        self.assertTrue(all(found[k] < found[k + 1] for k in range(len(found) - 1)))
        self.assertEqual(list(choices(Log([(8, 3), (0, 0)]))), [[(0, 0)] * 3 + [(0, 1)] * 5])

    def test_left_early_and_asked_for_again(self):
        log = Log([(1, 0)] * 3 + [(0, 1)] * 3)
        every = list(choices(log))
        self.assertEqual(len(every), 6)
        one = choices(log)
        other = choices(log)
        self.assertEqual(next(one), every[0])
        self.assertEqual(list(islice(other, 3)), every[:3])
        self.assertEqual(next(one), every[1])
        one.close()
        self.assertEqual(list(other), every[3:])
        self.assertEqual(list(choices(log)), every)

    def test_each_choice_is_a_new_list(self):
        log = Log([(1, 0)] * 3 + [(0, 1)] * 3)
        every = list(choices(log))
        found = []
        for choice in choices(log):
            found.append(list(choice))
            choice.clear()
        self.assertEqual(found, every)
        self.assertEqual(len({id(choice) for choice in every}), len(every))
        self.assertTrue(all(type(choice) is list for choice in every))
        empty = next(choices(Log([(0, 0)])))
        empty.append(1)
        self.assertEqual(next(choices(Log([(0, 0)]))), [])

    def test_too_large_when_the_first_one_is_asked_for(self):
        for log, units in (
            (Log([(9, 0)]), 9),
            (Log([(5, 5), (4, 4)]), 9),
            (Log([(40, 0), (0, 40)]), 40),
        ):
            found = choices(log)
            with self.assertRaises(TooLarge) as caught:
                next(found)
            self.assertEqual(caught.exception.count, units)
            with self.assertRaises(TooLarge):
                list(choices(log))


if __name__ == "__main__":
    unittest.main()
