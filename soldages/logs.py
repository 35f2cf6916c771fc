"""Logs of a store, their text form, and the choices that a log allows."""

from soldages.errors import InvalidText, NotLawful
from soldages.kinds import is_number, is_whole_tuple

MOST_DAYS = 60
MOST_UNITS = 40


class Log:
    """How many units arrived and left on each day."""

    def __init__(self, days):
        self.days = tuple([(arrived, left) for arrived, left in days])
        # Before the units are spread out below: an unlawful number may be too great to count them one by one.
        _check_lawful(self.days)
        self.days_in = _each_day([arrived for arrived, _ in self.days])
        leaving = _each_day([left for _, left in self.days])
        closing = len(self.days) - 1
        self.days_out = leaving + (closing,) * (len(self.days_in) - len(leaving))

    @classmethod
    def parse(cls, text):
        """Return the log of a text form."""
        return cls(_days_of(text))

    def stock(self, day):
        """Return how many units are there at the end of a day, without the closing."""
        return sum([arrived - left for arrived, left in self.days[:max(0, day + 1)]])

    def __eq__(self, other):
        return isinstance(other, Log) and self.days == other.days

    def __str__(self):
        return "\n".join([f"{arrived} {left}" for arrived, left in self.days])


def _check_lawful(days):
    """Raise NotLawful for the first day up to which more units have left than arrived."""
    stock = 0
    for day, (arrived, left) in enumerate(days):
        stock = stock + arrived - left
        if stock < 0:
            raise NotLawful(day)


def _each_day(numbers):
    """Return each day as often as its number says."""
    found = []
    for day, number in enumerate(numbers):
        found.extend([day] * number)
    return tuple(found)


def _days_of(text):
    """Return the days that a text form tells, lawful or not."""
    days = []
    units = 0
    for number, row in enumerate(text.split("\n")):
        if number >= MOST_DAYS or not _is_row(row):
            raise InvalidText(number)
        arrived, left = [_number_of(word) for word in row.split(" ")]
        units += arrived
        if units > MOST_UNITS:
            raise InvalidText(number)
        days.append((arrived, left))
    return days


def _is_row(row):
    """Tell whether a row has the form of a day."""
    words = row.split(" ")
    return len(words) == 2 and all([is_number(word) for word in words])


def _number_of(word):
    """Return the number that a word stands for, or of a long word another number above MOST_UNITS."""
    # int() refuses thousands of digits. Three of them are enough here: a number from 100 on is refused
    # as an arrival, and makes its day unlawful as a sale, whatever its other digits are.
    return int(word[:3])


def is_choice(log, value):
    """Tell whether a value of any kind is a choice of the log."""
    if not isinstance(value, list) or not all([is_whole_tuple(pair, 2) for pair in value]):
        return False
    return (
        value == sorted(value)
        and all([came <= left for came, left in value])
        and [came for came, _ in value] == list(log.days_in)
        and sorted([left for _, left in value]) == list(log.days_out)
    )


def ages_of(choice):
    """Return the ascending list of the ages of a choice."""
    return sorted([left - came for came, left in choice])
