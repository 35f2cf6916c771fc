"""Point 2: the facts about all choices of a log, for all small logs."""

import unittest

from soldages.logs import ages_of
from soldages.rules import choice_by, choices
from soldages.spread import compared, is_transfers, Table, transfers
from tests.values import all_small_logs

TABLES = [Table([(level, 1)]) for level in range(5)] + [Table([(0, 3), (1, 2), (3, 10)])]


class FactsTest(unittest.TestCase):
    def test_rules_are_the_ends_of_all_choices(self):
        for log in all_small_logs():
            if len(log.days_in) <= 8:
                oldest = ages_of(choice_by(log, "oldest"))
                newest = ages_of(choice_by(log, "newest"))
                for choice in choices(log):
                    self.check_between(oldest, ages_of(choice), newest)

    def check_between(self, oldest, ages, newest):
        self.assertEqual(sum(oldest), sum(ages))
        for low, high in ((oldest, ages), (ages, newest)):
            self.assertIn(compared(low, high), ("alike", "less"))
            self.assertTrue(is_transfers(low, high, transfers(low, high)))
            for table in TABLES:
                self.assertLessEqual(table.cost(low), table.cost(high))


if __name__ == "__main__":
    unittest.main()
