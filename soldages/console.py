"""A console that keeps logs by names and answers rows of text about them."""

from soldages.errors import InvalidRow, UnknownName
from soldages.kinds import is_number
from soldages.logs import ages_of, Log
from soldages.pairs import is_possible
from soldages.rules import choice_by
from soldages.thresholds import bounds

# What the words behind the first one must be.
FORMS = {
    "log": ("name",),
    "names": (),
    "show": ("name",),
    "ages": ("name", "rule"),
    "old": ("name", "number"),
    "can": ("name", "number", "number"),
}
MOST_LETTERS = 8
MOST_DIGITS = 6


class Console:
    """A console without logs at first."""

    def __init__(self):
        self._logs = {}

    def answer(self, row):
        """Execute a row and return its answer."""
        head, newline, text = row.partition("\n")
        words = head.split(" ")
        # The row that brings a log is the only one with more than one line.
        if not _has_form(words) or (words[0] == "log") != (newline == "\n"):
            raise InvalidRow(row)
        if words[0] == "log":
            self._logs[words[1]] = Log.parse(text)
            return "ok"
        if words[0] == "names":
            return _listed(sorted(self._logs))
        if words[1] not in self._logs:
            raise UnknownName(words[1])
        return _told(self._logs[words[1]], words[0], words[2:])


def _has_form(words):
    """Tell whether words are a known one and what must follow it."""
    if words[0] not in FORMS:
        return False
    kinds = FORMS[words[0]]
    return len(words) == len(kinds) + 1 and all([_is_kind(word, kind) for word, kind in zip(words[1:], kinds)])


def _is_kind(word, kind):
    """Tell whether a word is a name, a rule or a number."""
    if kind == "name":
        return len(word) <= MOST_LETTERS and word.isascii() and word.isalpha() and word.islower()
    if kind == "rule":
        return word in ("oldest", "newest")
    return len(word) <= MOST_DIGITS and is_number(word)


def _told(log, word, rest):
    """Return what a log tells for the first word of a row and those behind the name."""
    if word == "show":
        return str(log)
    if word == "ages":
        return _listed([str(age) for age in ages_of(choice_by(log, rest[0]))])
    if word == "old":
        least, greatest = bounds(log, int(rest[0]))
        return f"{least} {greatest}"
    return "yes" if is_possible(log, int(rest[0]), int(rest[1])) else "no"


def _listed(words):
    """Return words with single spaces, or that there are none."""
    return " ".join(words) if words else "none"
