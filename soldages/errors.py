"""The errors of the program. Messages are fixed texts, since the attributes may be values of any kind."""

from soldages.kinds import copied


class StoreError(ValueError):
    """The base class of all errors of the program."""


class InvalidText(StoreError):
    """A row of a text does not belong to the text form of a log."""

    def __init__(self, row):
        StoreError.__init__(self, "a row does not belong to the text form of a log")
        self.row = copied(row)


class NotLawful(StoreError):
    """More units have left up to a day than have arrived."""

    def __init__(self, day):
        StoreError.__init__(self, "more units have left up to a day than have arrived")
        self.day = copied(day)


class TooLarge(StoreError):
    """There are too many units to go through all possibilities."""

    def __init__(self, count):
        StoreError.__init__(self, "there are too many units")
        self.count = copied(count)


class NotComparable(StoreError):
    """Two lists differ in their lengths or in their sums."""

    def __init__(self):
        StoreError.__init__(self, "the lists differ in their lengths or in their sums")


class MoreSpread(StoreError):
    """A list costs more than another one above a level."""

    def __init__(self, level):
        StoreError.__init__(self, "the first list costs more above a level")
        self.level = copied(level)


class NoChoice(StoreError):
    """No choice has a number of old units."""

    def __init__(self, number):
        StoreError.__init__(self, "no choice has so many old units")
        self.number = copied(number)


class Worse(StoreError):
    """A stock has served fewer units than another one at the end of a future."""

    def __init__(self, future):
        StoreError.__init__(self, "the first stock serves fewer units in a future")
        self.future = copied(future)


class NotThere(StoreError):
    """A unit is not there."""

    def __init__(self, day):
        StoreError.__init__(self, "no such unit is there")
        self.day = copied(day)


class InvalidRow(StoreError):
    """A row has none of the forms that the console knows."""

    def __init__(self, row):
        StoreError.__init__(self, "the row has none of the known forms")
        self.row = copied(row)


class UnknownName(StoreError):
    """No log has a name."""

    def __init__(self, name):
        StoreError.__init__(self, "no log has the name")
        self.name = copied(name)
