"""Points 6 and 11: possible pairs of days, choices with them, and runs."""

import unittest

from soldages.logs import is_choice, Log
from soldages.pairs import choice_with, is_possible, possible_ages, runs
from tests.values import great_logs, logs_with_choices, some_choices

FOUR = Log([(2, 0), (1, 1), (0, 1), (1, 2)])
FAR = [-(10 ** 30), -60, 60, 10 ** 30]


def days_around(log):
    """Return the days of a log and days on either side of it."""
    return [*range(-2, len(log.days) + 2), *FAR]


class PossibleTest(unittest.TestCase):
    def test_pairs(self):
        found = [(came, left) for came in range(-1, 5) for left in range(-1, 5) if is_possible(FOUR, came, left)]
        self.assertEqual(found, [(0, 1), (0, 2), (0, 3), (1, 1), (1, 2), (1, 3), (3, 3)])
        self.assertIs(is_possible(log=FOUR, day_in=1, day_out=3), True)
        self.assertIs(is_possible(FOUR, 3, 1), False)

    def test_days_outside_the_log(self):
        for day in (-1, 4, *FAR):
            for other in range(-1, 5):
                self.assertIs(is_possible(FOUR, day, other), False)
                self.assertIs(is_possible(FOUR, other, day), False)
                self.assertIsNone(choice_with(FOUR, day, other))
                self.assertIsNone(choice_with(FOUR, other, day))
            self.assertIs(is_possible(FOUR, day, day), False)
            self.assertEqual(possible_ages(FOUR, day), ())

    def test_empty_in_between(self):
        log = Log([(1, 0), (0, 1), (1, 0), (0, 1)])
        self.assertIs(is_possible(log, 0, 1), True)
        self.assertIs(is_possible(log, 0, 3), False)
        self.assertIs(is_possible(log, 2, 3), True)
        self.assertIsNone(choice_with(log, 0, 3))
        self.assertEqual(possible_ages(log, 3), (1,))
        log = Log([(1, 0), (1, 2), (1, 1), (1, 0)])
        self.assertIs(is_possible(log, 1, 2), False)
        self.assertIs(is_possible(log, 2, 2), True)

    def test_the_stock_of_the_day_out_does_not_count(self):
        log = Log([(1, 0), (0, 1)])
        self.assertIs(is_possible(log, 0, 1), True)
        self.assertEqual(log.stock(1), 0)
        self.assertIs(is_possible(Log([(1, 1)]), 0, 0), True)

    def test_the_closing(self):
        log = Log([(2, 0), (0, 0), (0, 0)])
        self.assertIs(is_possible(log, 0, 2), True)
        self.assertIs(is_possible(log, 0, 1), False)
        self.assertEqual(choice_with(log, 0, 2), [(0, 2), (0, 2)])
        self.assertEqual(possible_ages(log, 2), (2,))

    def test_small_logs_by_all_choices(self):
        checked = 0
        for log, every in logs_with_choices():
            pairs = {pair for choice in every for pair in choice}
            for day_in in days_around(log):
                for day_out in days_around(log):
                    self.assertIs(is_possible(log, day_in, day_out), (day_in, day_out) in pairs)
                    self.check_choice(log, every, day_in, day_out, (day_in, day_out) in pairs)
                    checked += (day_in, day_out) in pairs
            for day_out in days_around(log):
                ages = tuple(sorted({left - came for came, left in pairs if left == day_out}))
                self.assertEqual(possible_ages(log, day_out), ages)
                self.assertIs(type(possible_ages(log=log, day_out=day_out)), tuple)
        self.assertGreater(checked, 2000)

    def check_choice(self, log, every, day_in, day_out, possible):
        found = choice_with(log=log, day_in=day_in, day_out=day_out)
        if not possible:
            self.assertIsNone(found)
        else:
            self.assertIs(type(found), list)
            self.assertIn((day_in, day_out), found)
            self.assertIn(found, every)

    def test_great_logs(self):
        for log in great_logs():
            possible = 0
            for day_in in days_around(log):
                for day_out in days_around(log):
                    found = choice_with(log, day_in, day_out)
                    self.assertIs(is_possible(log, day_in, day_out), found is not None)
                    if found is not None:
                        self.assertTrue(is_choice(log, found) and (day_in, day_out) in found)
                        possible += 1
            self.assertEqual(sum(len(possible_ages(log, day)) for day in days_around(log)), possible)
            for choice in some_choices(log):
                self.assertTrue(all(is_possible(log, *pair) for pair in choice))

    def test_a_new_list_each_time(self):
        found = choice_with(FOUR, 0, 3)
        kept = list(found)
        found.clear()
        self.assertEqual(choice_with(FOUR, 0, 3), kept)

    def test_ages(self):
        self.assertEqual(possible_ages(FOUR, 3), (0, 2, 3))
        self.assertEqual(possible_ages(FOUR, 0), ())
        self.assertEqual(possible_ages(FOUR, 1), (0, 1))
        self.assertEqual(possible_ages(Log([(3, 1), (0, 1), (0, 0)]), 1), (1,))


class RunsTest(unittest.TestCase):
    def test_runs(self):
        for days, expected in (
            ([(2, 0), (1, 1), (0, 1), (1, 2)], [(0, 3)]),
            ([(1, 1), (1, 1)], [(0, 0), (1, 1)]),
            ([(1, 1), (2, 0), (0, 1)], [(0, 0), (1, 2)]),
            ([(0, 0), (0, 0), (2, 0), (0, 1)], [(0, 0), (1, 1), (2, 3)]),
            ([(2, 0), (0, 2), (0, 0), (1, 0), (0, 0)], [(0, 1), (2, 2), (3, 4)]),
            ([(2, 0), (0, 1), (0, 1)], [(0, 2)]),
            ([(2, 0), (0, 2), (0, 0)], [(0, 1), (2, 2)]),
            ([(1, 0)], [(0, 0)]),
            ([(0, 0)], [(0, 0)]),
            ([(0, 0)] * 3, [(0, 0), (1, 1), (2, 2)]),
            ([(1, 0)] + [(0, 0)] * 59, [(0, 59)]),
        ):
            self.assertEqual(runs(Log(days)), expected)

    def test_all_logs(self):
        for log in [log for log, _ in logs_with_choices()] + great_logs():
            found = runs(log=log)
            self.assertIs(type(found), list)
            self.assertTrue(all(type(run) is tuple for run in found))
            days = [day for first, last in found for day in range(first, last + 1)]
            self.assertEqual(days, list(range(len(log.days))))
            ends = [day for day in days if log.stock(day) == 0 or day == len(log.days) - 1]
            self.assertEqual([last for _, last in found], ends)

    def test_no_pair_goes_from_one_run_to_another(self):
        for log, every in logs_with_choices():
            run_of = {day: run for run in runs(log) for day in range(run[0], run[1] + 1)}
            self.assertTrue(all(run_of[came] == run_of[left] for choice in every for came, left in choice))

    def test_a_new_list_each_time(self):
        found = runs(FOUR)
        found.clear()
        self.assertEqual(runs(FOUR), [(0, 3)])


if __name__ == "__main__":
    unittest.main()
