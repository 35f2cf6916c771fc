"""The examples of the document's interface, word for word."""

import unittest

from soldages import errors

LOGS = """
>>> from soldages.logs import ages_of, is_choice, Log
>>> log = Log.parse('2 0\\n1 1\\n0 1\\n1 2')
>>> choice = [(0, 1), (0, 3), (1, 2), (3, 3)]
>>> [log.days_in, log.days_out, log.stock(2), is_choice(log, choice), ages_of(choice)]
[(0, 0, 1, 3), (1, 2, 3, 3), 1, True, [0, 1, 1, 3]]

>>> from soldages.logs import Log
>>> Log.parse('1 0\\n0 2')
raises NotLawful(day=1)
"""

RULES = """
>>> from soldages.logs import Log
>>> from soldages.rules import choice_by, choices
>>> log = Log([(2, 0), (1, 1), (0, 1), (1, 2)])
>>> [choice_by(log, 'oldest'), choice_by(log, 'newest'), len(list(choices(log)))]
[[(0, 1), (0, 2), (1, 3), (3, 3)], [(0, 2), (0, 3), (1, 1), (3, 3)], 3]
"""

SPREAD = """
>>> from soldages.spread import compared, is_transfers, Table
>>> first, second = [0, 1, 2, 2], [0, 0, 2, 3]
>>> [compared(first, second), is_transfers(first, second, [(3, 0, 1)]), Table([(1, 5)]).cost(second)]
['less', True, 15]

>>> from soldages.spread import transfers
>>> transfers([1, 2], [1, 1])
raises NotComparable()
"""


def outcome(rows):
    """Execute the rows of an example and return its last row as the document writes it."""
    names = {}
    for row in rows[:-1]:
        exec(row, names)
    try:
        return repr(eval(rows[-1], names))
    except errors.StoreError as error:
        told = ", ".join(f"{name}={value!r}" for name, value in vars(error).items())
        return f"raises {type(error).__name__}({told})"


class ExamplesTest(unittest.TestCase):
    def check(self, text, many):
        examples = text.strip("\n").split("\n\n")
        self.assertEqual(len(examples), many)
        for example in examples:
            *rows, expected = example.split("\n")
            self.assertTrue(all(row.startswith(">>> ") for row in rows))
            self.assertEqual(outcome([row[4:] for row in rows]), expected)

    def test_logs(self):
        self.check(LOGS, 2)

    def test_rules(self):
        self.check(RULES, 1)

    def test_spread(self):
        self.check(SPREAD, 2)


if __name__ == "__main__":
    unittest.main()
